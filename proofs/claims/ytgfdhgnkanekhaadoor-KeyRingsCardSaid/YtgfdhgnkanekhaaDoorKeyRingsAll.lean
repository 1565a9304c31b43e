
/-
  'palaver/palaverlaw05.KeyRings' returns true for every input, and leaves what was there as it was. Condition: the package-level table palaver/sha.constants starts as the program's text lays it (tied by the card); none beyond that and the row's own.
-/
import Derived.Test.YtgfdhgnkanekhaaDoorKyU
import Derived.Test.YtgfdhgnkanekhaaDoorKyWX
import Derived.Test.YtgfdhgnkanekhaaDoorFrmH
import Derived.Lib.SmallJoins
import Derived.Deep.DeepWitnessRowRef
import Derived.Test.YtgfdhgnkanekhaaDoorOctP

namespace Go.Proofs.YtgfdhgnkanekhaaDoor
set_option maxRecDepth 100000
set_option linter.unusedVariables false
set_option linter.unusedSimpArgs false
open Go.RowKit

theorem kyOk_next {S : ByteArray} {h m : Nat} (hok : kyOk S h m = true) (hm : m < 2 ^ h) : kyOk S h ((m : Int) + 1) = true := by
  unfold kyOk at hok ⊢
  simp only [Bool.and_eq_true, decide_eq_true_eq, Int.toNat_natCast] at hok ⊢
  refine ⟨hok.1, by omega, ?_⟩
  have : ((m + 1 : Nat) : Int) ≤ ((2 ^ h : Nat) : Int) := by exact_mod_cast hm
  omega

set_option maxHeartbeats 16000000 in
theorem walk_keyRings (w : World) (S : ByteArray) (H N : Int) (hS : S.size ≤ 140737488351232) (hH : (Lit.int .i64 H).wf = true) (hN : (Lit.int .i64 N).wf = true) (v : Value) (zs : List ByteArray) (hz : StrsAt w v zs) (hl : zs.length ≤ 140737488351232) (hzs : ∀ s ∈ zs, s.size ≤ 140737488351232) (hK : KT w) :
    Calls Tryd.prog 6 #[.agg #[.string S, .int .i64 H, .int .i64 N], v] w fun e w' => e = .returned (.bool true) ∧ Below w.heap.size w w' := by
  have L := hidp (fun W (h : KT W) => lives5_any W h)
  have HK := hidp hK; have hkp := hK.pos; clear hK
  obtain ⟨av0, cv0, rfl, hcell0⟩ := hz
  have HC := hidp hcell0; clear hcell0
  obtain ⟨n, hn⟩ : ∃ n, zs.length = n := ⟨_, rfl⟩
  have HN := hidp hn
  rw [hn] at hl ⊢
  clear hn
  by_cases hA : 4 < H ∧ H ≤ 7
  · have e2 : decide (H > 4) = true := by simp; omega
    have n2 : 4 < H := hA.1
    have e3 : decide (H ≤ 7) = true := by simp; omega
    go_enter Tryd.func6, Tryd.ntmps6
    go_wp2_with (refine wpL_boxK rfl _ rfl [.string S, .int .i64 H, .int .i64 N] rfl ?_; intro b2 w0 n2; have HA0 := hidp n2.arr; have HB0 := hidp n2.below; have h2w := hidp n2.le; clear n2)
    refine (L.out _ (HK.out.below HB0.out hkp)).mono ?_
    rintro e w1 ⟨rfl, hb1⟩
    have HB1 := hidp (HB0.out.trans (hb1.mono HB0.out.size))
    have HA1 := hidp (HA0.out.below hb1 HA0.out.lt)
    clear hb1 HB0 HA0
    obtain ⟨x0, x1, x2, -⟩ := arr3k HA1.out
    go_wp2_with fail
    clear x0 x1 x2
    go_ret
    exact ⟨rfl, HB1.out⟩
  · have hA' : H ≤ 4 ∨ 7 < H := by omega
    by_cases h40 : 40 < n
    · have e4 : decide ((n : Int) > 40) = true := by simp; omega
      rcases hA' with h4 | h4
      · have e2 : decide (H > 4) = false := by simp; omega
        have n2 : ¬ 4 < H := by omega
        go_enter Tryd.func6, Tryd.ntmps6
        go_wp2_with (refine wpL_boxK rfl _ rfl [.string S, .int .i64 H, .int .i64 N] rfl ?_; intro b2 w0 n2; have HA0 := hidp n2.arr; have HB0 := hidp n2.below; have h2w := hidp n2.le; clear n2)
        refine (L.out _ (HK.out.below HB0.out hkp)).mono ?_
        rintro e w1 ⟨rfl, hb1⟩
        have HB1 := hidp (HB0.out.trans (hb1.mono HB0.out.size))
        have HA1 := hidp (HA0.out.below hb1 HA0.out.lt)
        clear hb1 HB0 HA0
        obtain ⟨x0, x1, x2, -⟩ := arr3k HA1.out
        go_wp2_with fail
        clear x0 x1 x2
        go_ret
        exact ⟨rfl, HB1.out⟩
      · have e2 : decide (H > 4) = true := by simp; omega
        have n2 : 4 < H := by omega
        have e3 : decide (H ≤ 7) = false := by simp; omega
        go_enter Tryd.func6, Tryd.ntmps6
        go_wp2_with (refine wpL_boxK rfl _ rfl [.string S, .int .i64 H, .int .i64 N] rfl ?_; intro b2 w0 n2; have HA0 := hidp n2.arr; have HB0 := hidp n2.below; have h2w := hidp n2.le; clear n2)
        refine (L.out _ (HK.out.below HB0.out hkp)).mono ?_
        rintro e w1 ⟨rfl, hb1⟩
        have HB1 := hidp (HB0.out.trans (hb1.mono HB0.out.size))
        have HA1 := hidp (HA0.out.below hb1 HA0.out.lt)
        clear hb1 HB0 HA0
        obtain ⟨x0, x1, x2, -⟩ := arr3k HA1.out
        go_wp2_with fail
        clear x0 x1 x2
        go_ret
        exact ⟨rfl, HB1.out⟩
    · have e4 : decide ((n : Int) > 40) = false := by simp; omega
      cases hok : kyOk S H N with
      | false =>
        have cm := hidp (fun W => kmake_no W S H N hok)
        have ck := hidp (show ∀ W, Calls Tryd.prog 17 #[.agg #[.string S, .int .i64 H, .int .i64 N]] W fun e w' => e = .returned (.int .i64 2) ∧ Below W.heap.size W w' from fun W => by
          have := rkyCheck_any W S H N
          rw [show kyE S H N = 2 from by unfold kyE; rw [hok]; rfl] at this; exact this)
        clear hok
        rcases hA' with h4 | h4
        · have e2 : decide (H > 4) = false := by simp; omega
          have n2 : ¬ 4 < H := by omega
          go_enter Tryd.func6, Tryd.ntmps6
          go_wp2_with (refine wpL_boxK rfl _ rfl [.string S, .int .i64 H, .int .i64 N] rfl ?_; intro b2 w0 n2; have HA0 := hidp n2.arr; have HB0 := hidp n2.below; have h2w := hidp n2.le; clear n2)
          refine (L.out _ (HK.out.below HB0.out hkp)).mono ?_
          rintro e w1 ⟨rfl, hb1⟩
          have HB1 := hidp (HB0.out.trans (hb1.mono HB0.out.size))
          have HA1 := hidp (HA0.out.below hb1 HA0.out.lt)
          clear hb1 HB0 HA0
          obtain ⟨x0, x1, x2, -⟩ := arr3k HA1.out
          go_wp2_with fail
          clear x0 x1 x2
          refine (cm.out _).mono ?_
          rintro e w2 ⟨rfl, hb2⟩
          have HB2 := hidp (HB1.out.trans (hb2.mono HB1.out.size))
          have HA2 := hidp (HA1.out.below hb2 HA1.out.lt)
          clear hb2 HB1 HA1
          obtain ⟨x0, x1, x2, -⟩ := arr3k HA2.out
          go_wp2_with fail
          clear x0 x1 x2
          refine (ck.out _).mono ?_
          rintro e w3 ⟨rfl, hb3⟩
          have HB3 := hidp (HB2.out.trans (hb3.mono HB2.out.size))
          have HA3 := hidp (HA2.out.below hb3 HA2.out.lt)
          clear hb3 HB2 HA2
          obtain ⟨x0, x1, x2, -⟩ := arr3k HA3.out
          go_wp2_with fail
          clear x0 x1 x2
          refine (ck.out _).mono ?_
          rintro e w4 ⟨rfl, hb4⟩
          have HB4 := hidp (HB3.out.trans (hb4.mono HB3.out.size))
          have HA4 := hidp (HA3.out.below hb4 HA3.out.lt)
          clear hb4 HB3 HA3
          go_wp2_with fail
          go_ret
          exact ⟨rfl, HB4.out⟩
        · have e2 : decide (H > 4) = true := by simp; omega
          have n2 : 4 < H := by omega
          have e3 : decide (H ≤ 7) = false := by simp; omega
          go_enter Tryd.func6, Tryd.ntmps6
          go_wp2_with (refine wpL_boxK rfl _ rfl [.string S, .int .i64 H, .int .i64 N] rfl ?_; intro b2 w0 n2; have HA0 := hidp n2.arr; have HB0 := hidp n2.below; have h2w := hidp n2.le; clear n2)
          refine (L.out _ (HK.out.below HB0.out hkp)).mono ?_
          rintro e w1 ⟨rfl, hb1⟩
          have HB1 := hidp (HB0.out.trans (hb1.mono HB0.out.size))
          have HA1 := hidp (HA0.out.below hb1 HA0.out.lt)
          clear hb1 HB0 HA0
          obtain ⟨x0, x1, x2, -⟩ := arr3k HA1.out
          go_wp2_with fail
          clear x0 x1 x2
          refine (cm.out _).mono ?_
          rintro e w2 ⟨rfl, hb2⟩
          have HB2 := hidp (HB1.out.trans (hb2.mono HB1.out.size))
          have HA2 := hidp (HA1.out.below hb2 HA1.out.lt)
          clear hb2 HB1 HA1
          obtain ⟨x0, x1, x2, -⟩ := arr3k HA2.out
          go_wp2_with fail
          clear x0 x1 x2
          refine (ck.out _).mono ?_
          rintro e w3 ⟨rfl, hb3⟩
          have HB3 := hidp (HB2.out.trans (hb3.mono HB2.out.size))
          have HA3 := hidp (HA2.out.below hb3 HA2.out.lt)
          clear hb3 HB2 HA2
          obtain ⟨x0, x1, x2, -⟩ := arr3k HA3.out
          go_wp2_with fail
          clear x0 x1 x2
          refine (ck.out _).mono ?_
          rintro e w4 ⟨rfl, hb4⟩
          have HB4 := hidp (HB3.out.trans (hb4.mono HB3.out.size))
          have HA4 := hidp (HA3.out.below hb4 HA3.out.lt)
          clear hb4 HB3 HA3
          go_wp2_with fail
          go_ret
          exact ⟨rfl, HB4.out⟩
      | true =>
        obtain ⟨⟨s1, s2⟩, ⟨q1, q2⟩, q3, q4⟩ := kyOk_parts hok
        have e2 : decide (H > 4) = false := by simp; omega
        have n2 : ¬ 4 < H := by omega
        obtain ⟨h, rfl⟩ : ∃ h : Nat, H = h := ⟨H.toNat, by omega⟩
        obtain ⟨m, rfl⟩ : ∃ m : Nat, N = m := ⟨N.toNat, by omega⟩
        have hh4 : h ≤ 4 := by omega
        have cm := hidp (fun W => kmake_yes W S (h : Int) (m : Int) (by omega) hok)
        have ck := hidp (show ∀ W, Calls Tryd.prog 17 #[.agg #[.string S, .int .i64 (h : Int), .int .i64 (m : Int)]] W fun e w' => e = .returned (.int .i64 0) ∧ Below W.heap.size W w' from fun W => by
          have := rkyCheck_any W S (h : Int) (m : Int)
          rw [show kyE S (h : Int) (m : Int) = 0 from by unfold kyE; rw [hok]; rfl] at this; exact this)
        have cd := hidp (fun W => rmake_any W S h (m : Int) s2 (by omega))
        have hRl := hidp (keyR_len S (h : Int) (m : Int))
        have cR := hidp (fun W b (ha : Arr W b 84 [.string S, .int .i64 (h : Int), .int .i64 (m : Int)]) (k : KT W) => krRoot_any W b S (h : Int) (m : Int) ha k)
        have hRe : keyR S (h : Int) (m : Int) = rootV (leafL S.data.toList h) := by unfold keyR; rw [hok]; rfl
        have cw := hidp (fun W (M : Nat) (hM : kyOk S h M = true) (t : ByteArray) (ht : t.size ≤ 16384) v (hv : HsAt W v (leafL S.data.toList h)) => rrsign_any W S h M hM t (by omega) v hv)
        have hrE := rootE_leaf S.data.toList (h := h) (by omega)
        have hLl := leafL_len S.data.toList h
        have hP16 := pow_le7 (h := h) (by omega)
        obtain ⟨L', hL'⟩ : ∃ L', leafL S.data.toList h = L' := ⟨_, rfl⟩
        rw [hL'] at cd hRe cw hrE hLl
        have cS := hidp (fun W v (hv : HsAt W v L') => rrRoot_any W S (h : Int) (m : Int) v L' hv (by omega) hrE)
        obtain ⟨R, hR⟩ : ∃ R, keyR S (h : Int) (m : Int) = R := ⟨_, rfl⟩
        rw [hR] at hRe hRl cR
        rw [← hRe] at cS
        have hnh := hidp (show ∀ W, (Op.equalIn 10000 26 (.agg (u8s R).toArray) (.agg (u8s R).toArray)).run Tryd.prog W = .ok true W from fun W => by
          rw [eqin_hash W R R hRl.out hRl.out]; simp)
        have HOK0 := hidp hok
        clear hok q1 q2 q3 q4 hRe hR hL' hrE hLl hP16
        go_enter Tryd.func6, Tryd.ntmps6
        go_wp2_with (refine wpL_boxK rfl _ rfl [.string S, .int .i64 (h : Int), .int .i64 (m : Int)] rfl ?_; intro b2 w0 n2; have HA0 := hidp n2.arr; have HB0 := hidp n2.below; have h2w := hidp n2.le; clear n2)
        refine (L.out _ (HK.out.below HB0.out hkp)).mono ?_
        rintro e w1 ⟨rfl, hb1⟩
        have HB1 := hidp (HB0.out.trans (hb1.mono HB0.out.size))
        have HA1 := hidp (HA0.out.below hb1 HA0.out.lt)
        clear hb1 HB0 HA0
        obtain ⟨x0, x1, x2, -⟩ := arr3k HA1.out
        go_wp2_with fail
        clear x0 x1 x2
        refine (cm.out _).mono ?_
        rintro e w2 ⟨br, rfl, hr, hbr, hb2⟩
        have HB2 := hidp (HB1.out.trans (hb2.mono HB1.out.size))
        have HA2 := hidp (HA1.out.below hb2 HA1.out.lt)
        have HR2 := hidp hr; have hrw := hidp (Nat.le_trans HB1.out.size hbr)
        clear hr hbr
        clear hb2 HB1 HA1
        obtain ⟨x0, x1, x2, -⟩ := arr3k HA2.out
        go_wp2_with fail
        clear x0 x1 x2
        refine (ck.out _).mono ?_
        rintro e w3 ⟨rfl, hb3⟩
        have HB3 := hidp (HB2.out.trans (hb3.mono HB2.out.size))
        have HA3 := hidp (HA2.out.below hb3 HA2.out.lt)
        have HR3 := hidp (HR2.out.below hb3 HR2.out.lt)
        clear hb3 HB2 HA2 HR2
        obtain ⟨x0, x1, x2, -⟩ := arr3k HA3.out
        go_wp2_with fail
        clear x0 x1 x2
        refine (cd.out _).mono ?_
        rintro e w4 ⟨vd, rfl, hv, hb4⟩
        have HB4 := hidp (HB3.out.trans (hb4.mono HB3.out.size))
        have HA4 := hidp (HA3.out.below hb4 HA3.out.lt)
        have HR4 := hidp (HR3.out.below hb4 HR3.out.lt)
        have HV4 := hidp (hv.base (C := w.heap.size) HB3.out.size)
        clear hv
        obtain ⟨av, cv, rfl⟩ := HV4.out.hs.form
        clear hb4 HB3 HA3 HR3
        obtain ⟨nl, hnl⟩ : ∃ n, L'.length = n := ⟨_, rfl⟩
        rw [hnl] at HV4 ⊢
        clear hnl HA4
        go_wp2_with (first
          | (refine wpL_newDr rfl rfl ?_; intro b7 w5 n5; have HR5 := hidp (n5.old HR4.out); have HD5 := hidp n5.arr; have HB5 := hidp (HB4.out.trans (n5.below.mono HB4.out.size)); have h7w := hidp (Nat.le_trans HB4.out.size n5.le); have hr7 := hidp (show br < b7 from by have := n5.at_; have := HR4.out.lt; omega); have HV5 := hidp (HV4.out.to n5.below (Nat.le_refl _)); clear n5 HR4 HB4 HV4)
          | (refine wpL_putD rfl (.tmp 7) (.tmp 54) rfl b7 (.string S) (.int .i64 (h : Int)) (.int .i64 (m : Int)) (.slice av nl cv) rfl rfl (by simp [Value.oneCell']) _ _ _ _ HD5.out ?_; intro w6 ha hp; have HR6 := hidp (hp.old HR5.out hr7.out); have HD6 := hidp ha; have HB6 := hidp (hp.below' HB5.out h7w.out); have HV6 := hidp (hp.ownH HV5.out HD5.out (by decide)); clear ha hp HR5 HD5 HB5 HV5))
        obtain ⟨U, hU⟩ : ∃ U, ({ w6 with drawn := w6.drawn + 1 } : World) = U := ⟨_, rfl⟩
        have bU : Below w6.heap.size w6 U := by rw [← hU]; exact (Below.refl _ _).drew
        have HR7 := hidp (HR6.out.below bU HR6.out.lt); have HD7 := hidp (HD6.out.below bU HD6.out.lt); have HB7 := hidp (HB6.out.trans (bU.mono HB6.out.size)); have HV7 := hidp (HV6.out.to bU (Nat.le_refl _))
        clear bU HR6 HD6 HB6 HV6
        refine wp_region_noPanic ?_
        refine wp_region_scr (S := fun W => Arr W b7 45 [.string S, .int .i64 (h : Int), .int .i64 (m : Int), .slice av nl cv]) (.take 0 (.take 1 (.take 2 (.take 3 (.take 5 (.one 4 (.one 6 (.take 7 (.take 8 .done))))))))) (by kernel_rfl) (by kernel_rfl) (fun _ _ _ _ _ h => h) (by simp [Scr.depth]) (by kernel_rfl) (by rw [hU]; exact HD7.out) ?_
        simp only [hU]
        clear hU
        apply s_val
        case ho => rfl
        case hw => rfl
        case hv => intro w hw; obtain ⟨x0, x1, x2, x3, -⟩ := arr4k hw; go_simp; first | done | with_reducible rfl | rfl
        simp only [Act.put, List.getElem_toArray, List.getElem_cons_zero, List.getElem_cons_succ, List.setIfInBounds_toArray, List.set_cons_zero, List.set_cons_succ]
        apply s_val
        case ho => rfl
        case hw => rfl
        case hv => intro w hw; obtain ⟨x0, x1, x2, x3, -⟩ := arr4k hw; go_simp; first | done | with_reducible rfl | rfl
        simp only [Act.put, List.getElem_toArray, List.getElem_cons_zero, List.getElem_cons_succ, List.setIfInBounds_toArray, List.set_cons_zero, List.set_cons_succ]
        apply s_val
        case ho => rfl
        case hw => rfl
        case hv => intro w hw; obtain ⟨x0, x1, x2, x3, -⟩ := arr4k hw; go_simp; first | done | with_reducible rfl | rfl
        simp only [Act.put, List.getElem_toArray, List.getElem_cons_zero, List.getElem_cons_succ, List.setIfInBounds_toArray, List.set_cons_zero, List.set_cons_succ]
        apply s_val
        case ho => rfl
        case hw => rfl
        case hv => intro w hw; obtain ⟨x0, x1, x2, x3, -⟩ := arr4k hw; go_simp; first | done | with_reducible rfl | rfl
        simp only [Act.put, List.getElem_toArray, List.getElem_cons_zero, List.getElem_cons_succ, List.setIfInBounds_toArray, List.set_cons_zero, List.set_cons_succ]
        apply s_val
        case ho => rfl
        case hw => rfl
        case hv => intro w hw; obtain ⟨x0, x1, x2, x3, -⟩ := arr4k hw; go_simp; first | done | with_reducible rfl | rfl
        simp only [Act.put, List.getElem_toArray, List.getElem_cons_zero, List.getElem_cons_succ, List.setIfInBounds_toArray, List.set_cons_zero, List.set_cons_succ]
        apply o_call (f := 24) (args := #[.pointer (some ⟨br, 0, none⟩)]) (v := .agg (u8s R).toArray) (hc := cR.out _ _ HR7.out (HK.out.below HB7.out hkp))
        case ho => rfl
        case hw => rfl
        case hop => go_simp; first | done | rfl
        rintro W8 hb
        refine ⟨HD7.out.below hb HD7.out.lt, ?_⟩
        have HR8 := hidp (HR7.out.below hb HR7.out.lt); have HD8 := hidp (HD7.out.below hb HD7.out.lt); have HB8 := hidp (HB7.out.trans (hb.mono HB7.out.size)); have HV8 := hidp (HV7.out.to hb (Nat.le_refl _))
        clear hb HR7 HD7 HB7 HV7
        simp only [Act.put, List.getElem_toArray, List.getElem_cons_zero, List.getElem_cons_succ, List.setIfInBounds_toArray, List.set_cons_zero, List.set_cons_succ]
        apply o_call (f := 25) (args := #[.agg #[.string S, .int .i64 (h : Int), .int .i64 (m : Int), .slice av nl cv]]) (v := .agg (u8s R).toArray) (hc := cS.out _ _ HV8.out.hs)
        case ho => rfl
        case hw => rfl
        case hop => go_simp; first | done | rfl
        rintro W9 hb
        refine ⟨HD8.out.below hb HD8.out.lt, ?_⟩
        have HR9 := hidp (HR8.out.below hb HR8.out.lt); have HD9 := hidp (HD8.out.below hb HD8.out.lt); have HB9 := hidp (HB8.out.trans (hb.mono HB8.out.size)); have HV9 := hidp (HV8.out.to hb (Nat.le_refl _))
        clear hb HR8 HD8 HB8 HV8
        simp only [Act.put, List.getElem_toArray, List.getElem_cons_zero, List.getElem_cons_succ, List.setIfInBounds_toArray, List.set_cons_zero, List.set_cons_succ]
        apply s_val (v := .bool false)
        case ho => rfl
        case hw => rfl
        case hv => intro w hw; have q := hnh.out w; go_simp; first | done | rfl
        simp only [Act.put, List.getElem_toArray, List.getElem_cons_zero, List.getElem_cons_succ, List.setIfInBounds_toArray, List.set_cons_zero, List.set_cons_succ]
        apply s_val
        case ho => rfl
        case hw => rfl
        case hv => intro w hw; obtain ⟨x0, x1, x2, x3, -⟩ := arr4k hw; go_simp; first | done | with_reducible rfl | rfl
        simp only [Act.put, List.getElem_toArray, List.getElem_cons_zero, List.getElem_cons_succ, List.setIfInBounds_toArray, List.set_cons_zero, List.set_cons_succ]
        refine NoPanic.normal ?_
        go_wp2_with fail
        go_loopw [66] (fun t66 wr => ∃ k M : Nat, t66 = .int .i64 (k : Int) ∧ k ≤ n ∧ kyOk S (h : Int) (M : Int) = true ∧ Arr wr br 84 [.string S, .int .i64 (h : Int), .int .i64 (M : Int)] ∧ Arr wr b7 45 [.string S, .int .i64 (h : Int), .int .i64 (M : Int), .slice av nl cv] ∧ OwnH wr w.heap.size (.slice av nl cv) L' ∧ Below w.heap.size w wr) (fun t66 _ => n - (intOf t66).toNat)
        case atStart => exact ⟨0, m, rfl, by omega, HOK0.out, HR9.out, HD9.out, HV9.out, HB9.out⟩
        case round =>
          obtain ⟨k, M, rfl, hk, hokM, hr, hd, hv, hb⟩ := hrel
          have HOK := hidp hokM; have HR := hidp hr; have HD := hidp hd; have HV := hidp hv; have HB := hidp hb
          clear hokM hr hd hv hb HR9 HD9 HV9 HB9
          by_cases hlt : k < n
          · have e5 : decide ((k : Int) < (n : Int)) = true := by simp; omega
            have hlt' : k < zs.length := by rw [HN.out]; exact hlt
            obtain ⟨bz, off, rfl, hcell⟩ := HC.out k hlt'
            have hcell2 := (HB.out.cell (p := ⟨bz, off + k, none⟩) (by have := World.block_lt_of_cell? w _ hcell; simpa using this)).trans hcell
            clear hcell
            obtain ⟨t, ht⟩ : ∃ s, zs[k] = s := ⟨_, rfl⟩
            rw [ht] at hcell2
            clear ht hlt'
            by_cases h16 : 16384 < t.size
            · have e6 : decide ((t.size : Int) > 16384) = true := by simp; omega
              go_wp2_with fail
              go_ret
              exact ⟨rfl, HB.out⟩
            · have e6 : decide ((t.size : Int) > 16384) = false := by simp; omega
              have n6 : ¬ 16384 < t.size := h16
              have hM0 : M ≤ 2 ^ h := by have := (kyOk_parts HOK.out).2.2.2; rw [Int.toNat_natCast] at this; exact_mod_cast this
              have cr := hidp (fun W (ha : Arr W br 84 [.string S, .int .i64 (h : Int), .int .i64 (M : Int)]) (k : KT W) => krSign_any W br S h M HOK.out t (by omega) ha k)
              have cw := hidp (fun W v (hv : HsAt W v L') => cw.out W M HOK.out t (by omega) v hv)
              by_cases hMe : M = 2 ^ h
              · obtain ⟨g1, g2, g3⟩ := sg_over t.data.toList HOK.out (by rw [Int.toNat_natCast, hMe])
                have g4 : rgA S (h : Int) (M : Int) = [.string S, .int .i64 (h : Int), .int .i64 (M : Int)] := by unfold rgA; rw [g3]; rfl
                have cr := hidp (show ∀ W (ha : Arr W br 84 [.string S, .int .i64 (h : Int), .int .i64 (M : Int)]) (k : KT W), _ from cr.out)
                rw [g2, g3, g4] at cr cw
                have cw := hidp (show ∀ W (hv : HsAt W (.slice av nl cv) L'), Calls Tryd.prog 26 #[.agg #[.string S, .int .i64 (h : Int), .int .i64 (M : Int), .slice av nl cv], .string t] W fun e w' => e = .returned (.tuple #[.agg #[.string S, .int .i64 (h : Int), .int .i64 (M : Int), .slice av nl cv], .string ⟨#[]⟩, .int .i64 10]) ∧ Below W.heap.size W w' from fun W hv => cw.out W _ hv)
                have tG : ((⟨#[]⟩ : ByteArray).toList != (⟨#[]⟩ : ByteArray).toList) = false := by simp
                clear g1 g2 g3 g4 hMe hM0
                go_wp2_with (refine wpL_getD rfl (.tmp 7) rfl b7 _ _ _ _ rfl HD.out ?_)
                refine (cw.out _ HV.out.hs).mono ?_
                rintro e w1 ⟨rfl, hb1⟩
                have HB1 := hidp (HB.out.trans (hb1.mono HB.out.size))
                have HR1 := hidp (HR.out.below hb1 HR.out.lt)
                have HD1 := hidp (HD.out.below hb1 HD.out.lt)
                have HV1 := hidp (HV.out.to hb1 (Nat.le_refl _))
                clear hb1 HB HR HD HV
                go_wp2_with (first
                  | (refine wpL_newDr rfl rfl ?_; intro b10 w5 n5; have HR2 := hidp (n5.old HR1.out); have HD2 := hidp (n5.old HD1.out); have HX2 := hidp n5.arr; have HB2 := hidp (HB1.out.trans (n5.below.mono HB1.out.size)); have h10w := hidp (Nat.le_trans HB1.out.size n5.le); have hr10 := hidp (show br < b10 ∧ b7 < b10 from by have := n5.at_; have := HR1.out.lt; have := HD1.out.lt; omega); have HV2 := hidp (HV1.out.to n5.below (Nat.le_refl _)); clear n5 HR1 HD1 HB1 HV1)
                  | (refine wpL_putD rfl (.tmp 10) (.tmp 77) rfl b10 (.string S) (.int .i64 (h : Int)) (.int .i64 (M : Int)) (.slice av nl cv) rfl rfl (by simp [Value.oneCell']) _ _ _ _ HX2.out ?_; intro w6 ha hp; have HR3 := hidp (hp.old HR2.out hr10.out.1); have HD3 := hidp (hp.old HD2.out hr10.out.2); have HX3 := hidp ha; have HB3 := hidp (hp.below' HB2.out h10w.out); have HV3 := hidp (hp.ownH HV2.out HX2.out (by decide)); clear ha hp HR2 HD2 HX2 HB2 HV2))
                refine (cr.out _ HR3.out (HK.out.below HB3.out hkp)).mono ?_
                rintro e w7 ⟨rfl, W, hbW, hs, harr⟩
                have HR4 := hidp harr
                have HD4 := hidp (hs.arr (by have := hr7.out; omega) (HD3.out.below hbW HD3.out.lt)); have HX4 := hidp (hs.arr (by have := hr10.out.1; omega) (HX3.out.below hbW HX3.out.lt))
                have HV4 := hidp (hs.ownH (HV3.out.to hbW (Nat.le_refl _)) (HR3.out.below hbW HR3.out.lt) (by decide)); have HB4 := hidp (hs.below' (HB3.out.trans (hbW.mono HB3.out.size)) hrw.out)
                clear hbW hs harr HR3 HD3 HX3 HV3 HB3
                go_wp2_with fail
                obtain ⟨U, hU⟩ : ∃ U, ({ w7 with drawn := w7.drawn + 1 } : World) = U := ⟨_, rfl⟩
                have bU : Below w7.heap.size w7 U := by rw [← hU]; exact (Below.refl _ _).drew
                have HR7 := hidp (HR4.out.below bU HR4.out.lt); have HD7 := hidp (HD4.out.below bU HD4.out.lt); have HX7 := hidp (HX4.out.below bU HX4.out.lt); have HB7 := hidp (HB4.out.trans (bU.mono HB4.out.size)); have HV7 := hidp (HV4.out.to bU (Nat.le_refl _))
                clear bU HR4 HD4 HX4 HB4 HV4
                refine wp_region_noPanic ?_
                refine wp_region_scr (S := fun W => Arr W b10 45 [.string S, .int .i64 (h : Int), .int .i64 (M : Int), .slice av nl cv]) (.take 0 (.take 1 (.take 2 (.take 3 (.take 4 (.take 5 (.take 6 (.take 7 (.take 8 (.take 9 (.take 11 (.take 12 (.one 10 (.take 13 (.take 14 .done))))))))))))))) (by kernel_rfl) (by kernel_rfl) (fun _ _ _ _ _ h => h) (by simp [Scr.depth]) (by kernel_rfl) (by rw [hU]; exact HX7.out) ?_
                simp only [hU]
                clear hU
                apply s_val
                case ho => rfl
                case hw => rfl
                case hv => intro w hw; obtain ⟨x0, x1, x2, x3, -⟩ := arr4k hw; go_simp; first | done | with_reducible rfl | rfl
                simp only [Act.put, List.getElem_toArray, List.getElem_cons_zero, List.getElem_cons_succ, List.setIfInBounds_toArray, List.set_cons_zero, List.set_cons_succ]
                apply s_val
                case ho => rfl
                case hw => rfl
                case hv => intro w hw; obtain ⟨x0, x1, x2, x3, -⟩ := arr4k hw; go_simp; first | done | with_reducible rfl | rfl
                simp only [Act.put, List.getElem_toArray, List.getElem_cons_zero, List.getElem_cons_succ, List.setIfInBounds_toArray, List.set_cons_zero, List.set_cons_succ]
                apply s_val
                case ho => rfl
                case hw => rfl
                case hv => intro w hw; obtain ⟨x0, x1, x2, x3, -⟩ := arr4k hw; go_simp; first | done | with_reducible rfl | rfl
                simp only [Act.put, List.getElem_toArray, List.getElem_cons_zero, List.getElem_cons_succ, List.setIfInBounds_toArray, List.set_cons_zero, List.set_cons_succ]
                apply s_val
                case ho => rfl
                case hw => rfl
                case hv => intro w hw; obtain ⟨x0, x1, x2, x3, -⟩ := arr4k hw; go_simp; first | done | with_reducible rfl | rfl
                simp only [Act.put, List.getElem_toArray, List.getElem_cons_zero, List.getElem_cons_succ, List.setIfInBounds_toArray, List.set_cons_zero, List.set_cons_succ]
                apply s_val
                case ho => rfl
                case hw => rfl
                case hv => intro w hw; obtain ⟨x0, x1, x2, x3, -⟩ := arr4k hw; go_simp; first | done | with_reducible rfl | rfl
                simp only [Act.put, List.getElem_toArray, List.getElem_cons_zero, List.getElem_cons_succ, List.setIfInBounds_toArray, List.set_cons_zero, List.set_cons_succ]
                apply s_val
                case ho => rfl
                case hw => rfl
                case hv => intro w hw; obtain ⟨x0, x1, x2, x3, -⟩ := arr4k hw; go_simp; first | done | with_reducible rfl | rfl
                simp only [Act.put, List.getElem_toArray, List.getElem_cons_zero, List.getElem_cons_succ, List.setIfInBounds_toArray, List.set_cons_zero, List.set_cons_succ]
                apply s_val
                case ho => rfl
                case hw => rfl
                case hv => intro w hw; obtain ⟨x0, x1, x2, x3, -⟩ := arr4k hw; go_simp; first | done | with_reducible rfl | rfl
                simp only [Act.put, List.getElem_toArray, List.getElem_cons_zero, List.getElem_cons_succ, List.setIfInBounds_toArray, List.set_cons_zero, List.set_cons_succ]
                apply s_val
                case ho => rfl
                case hw => rfl
                case hv => intro w hw; obtain ⟨x0, x1, x2, x3, -⟩ := arr4k hw; go_simp; first | done | with_reducible rfl | rfl
                simp only [Act.put, List.getElem_toArray, List.getElem_cons_zero, List.getElem_cons_succ, List.setIfInBounds_toArray, List.set_cons_zero, List.set_cons_succ]
                apply s_val
                case ho => rfl
                case hw => rfl
                case hv => intro w hw; obtain ⟨x0, x1, x2, x3, -⟩ := arr4k hw; go_simp; first | done | with_reducible rfl | rfl
                simp only [Act.put, List.getElem_toArray, List.getElem_cons_zero, List.getElem_cons_succ, List.setIfInBounds_toArray, List.set_cons_zero, List.set_cons_succ]
                apply s_val
                case ho => rfl
                case hw => rfl
                case hv => intro w hw; obtain ⟨x0, x1, x2, x3, -⟩ := arr4k hw; go_simp; first | done | with_reducible rfl | rfl
                simp only [Act.put, List.getElem_toArray, List.getElem_cons_zero, List.getElem_cons_succ, List.setIfInBounds_toArray, List.set_cons_zero, List.set_cons_succ]
                apply s_val
                case ho => rfl
                case hw => rfl
                case hv => intro w hw; obtain ⟨x0, x1, x2, x3, -⟩ := arr4k hw; go_simp; first | done | with_reducible rfl | rfl
                simp only [Act.put, List.getElem_toArray, List.getElem_cons_zero, List.getElem_cons_succ, List.setIfInBounds_toArray, List.set_cons_zero, List.set_cons_succ]
                apply s_val
                case ho => rfl
                case hw => rfl
                case hv => intro w hw; obtain ⟨x0, x1, x2, x3, -⟩ := arr4k hw; go_simp; first | done | with_reducible rfl | rfl
                simp only [Act.put, List.getElem_toArray, List.getElem_cons_zero, List.getElem_cons_succ, List.setIfInBounds_toArray, List.set_cons_zero, List.set_cons_succ]
                apply o_call (f := 28) (args := #[.pointer (some ⟨br, 0, none⟩)]) (v := .agg #[.string S, .int .i64 (h : Int), .int .i64 (M : Int)]) (hc := krKey_any _ _ _ _ _ HR7.out)
                case ho => rfl
                case hw => rfl
                case hop => go_simp; first | done | rfl
                rintro W8 hb
                refine ⟨HX7.out.below hb HX7.out.lt, ?_⟩
                have HR8 := hidp (HR7.out.below hb HR7.out.lt); have HD8 := hidp (HD7.out.below hb HD7.out.lt); have HX8 := hidp (HX7.out.below hb HX7.out.lt); have HB8 := hidp (HB7.out.trans (hb.mono HB7.out.size)); have HV8 := hidp (HV7.out.to hb (Nat.le_refl _))
                clear hb HR7 HD7 HX7 HB7 HV7
                simp only [Act.put, List.getElem_toArray, List.getElem_cons_zero, List.getElem_cons_succ, List.setIfInBounds_toArray, List.set_cons_zero, List.set_cons_succ]
                apply s_val (v := .bool false)
                case ho => rfl
                case hw => rfl
                case hv => intro w hw; have q := eqin_key w S (h : Int) (M : Int); go_simp; first | done | rfl
                simp only [Act.put, List.getElem_toArray, List.getElem_cons_zero, List.getElem_cons_succ, List.setIfInBounds_toArray, List.set_cons_zero, List.set_cons_succ]
                apply s_val
                case ho => rfl
                case hw => rfl
                case hv => intro w hw; obtain ⟨x0, x1, x2, x3, -⟩ := arr4k hw; go_simp; first | done | with_reducible rfl | rfl
                simp only [Act.put, List.getElem_toArray, List.getElem_cons_zero, List.getElem_cons_succ, List.setIfInBounds_toArray, List.set_cons_zero, List.set_cons_succ]
                refine NoPanic.normal ?_
                go_wp2_with (first
                  | (refine wpL_getD rfl (.tmp 10) rfl b10 _ _ _ _ rfl HX8.out ?_)
                  | (refine wpL_putD rfl (.tmp 7) (.tmp 101) rfl b7 (.string S) (.int .i64 (h : Int)) (.int .i64 (M : Int)) (.slice av nl cv) rfl rfl (by simp [Value.oneCell']) _ _ _ _ HD8.out ?_; intro w9 ha hp; have HR9 := hidp (hp.arr (by have := hr7.out; omega) HR8.out); have HD9 := hidp ha; have HB9 := hidp (hp.below' HB8.out h7w.out); have HV9 := hidp (hp.ownH HV8.out HD8.out (by decide)); clear ha hp HR8 HD8 HB8 HV8))
                exact ⟨⟨k + 1, M, by go_num, by omega, HOK.out, HR9.out, HD9.out, HV9.out, HB9.out⟩, by simp [intOf]; omega⟩
              · have hMl : M < 2 ^ h := by omega
                have hMlt := hidp hMl
                obtain ⟨g1, g2, g3⟩ := sg_yes t.data.toList HOK.out (by rw [Int.toNat_natCast]; exact_mod_cast hMe)
                have g4 : rgA S (h : Int) (M : Int) = [.string S, .int .i64 (h : Int), .int .i64 ((M : Int) + 1)] := by unfold rgA; rw [g3, if_pos rfl, g1]
                have cr := hidp (show ∀ W (ha : Arr W br 84 [.string S, .int .i64 (h : Int), .int .i64 (M : Int)]) (k : KT W), _ from cr.out)
                rw [g3, g4] at cr cw
                obtain ⟨G, hG⟩ : ∃ G, sgS S (h : Int) (M : Int) t.data.toList = G := ⟨_, rfl⟩
                rw [hG] at cr cw
                have cw := hidp (show ∀ W (hv : HsAt W (.slice av nl cv) L'), Calls Tryd.prog 26 #[.agg #[.string S, .int .i64 (h : Int), .int .i64 (M : Int), .slice av nl cv], .string t] W fun e w' => e = .returned (.tuple #[.agg #[.string S, .int .i64 (h : Int), .int .i64 ((M : Int) + 1), .slice av nl cv], .string G, .int .i64 0]) ∧ Below W.heap.size W w' from fun W hv => cw.out W _ hv)
                have tG : (G.toList != G.toList) = false := by simp
                clear g1 g2 g3 g4 hG hMe hM0 hMl
                go_wp2_with (refine wpL_getD rfl (.tmp 7) rfl b7 _ _ _ _ rfl HD.out ?_)
                refine (cw.out _ HV.out.hs).mono ?_
                rintro e w1 ⟨rfl, hb1⟩
                have HB1 := hidp (HB.out.trans (hb1.mono HB.out.size))
                have HR1 := hidp (HR.out.below hb1 HR.out.lt)
                have HD1 := hidp (HD.out.below hb1 HD.out.lt)
                have HV1 := hidp (HV.out.to hb1 (Nat.le_refl _))
                clear hb1 HB HR HD HV
                go_wp2_with (first
                  | (refine wpL_newDr rfl rfl ?_; intro b10 w5 n5; have HR2 := hidp (n5.old HR1.out); have HD2 := hidp (n5.old HD1.out); have HX2 := hidp n5.arr; have HB2 := hidp (HB1.out.trans (n5.below.mono HB1.out.size)); have h10w := hidp (Nat.le_trans HB1.out.size n5.le); have hr10 := hidp (show br < b10 ∧ b7 < b10 from by have := n5.at_; have := HR1.out.lt; have := HD1.out.lt; omega); have HV2 := hidp (HV1.out.to n5.below (Nat.le_refl _)); clear n5 HR1 HD1 HB1 HV1)
                  | (refine wpL_putD rfl (.tmp 10) (.tmp 77) rfl b10 (.string S) (.int .i64 (h : Int)) (.int .i64 ((M : Int) + 1)) (.slice av nl cv) rfl rfl (by simp [Value.oneCell']) _ _ _ _ HX2.out ?_; intro w6 ha hp; have HR3 := hidp (hp.old HR2.out hr10.out.1); have HD3 := hidp (hp.old HD2.out hr10.out.2); have HX3 := hidp ha; have HB3 := hidp (hp.below' HB2.out h10w.out); have HV3 := hidp (hp.ownH HV2.out HX2.out (by decide)); clear ha hp HR2 HD2 HX2 HB2 HV2))
                refine (cr.out _ HR3.out (HK.out.below HB3.out hkp)).mono ?_
                rintro e w7 ⟨rfl, W, hbW, hs, harr⟩
                have HR4 := hidp harr
                have HD4 := hidp (hs.arr (by have := hr7.out; omega) (HD3.out.below hbW HD3.out.lt)); have HX4 := hidp (hs.arr (by have := hr10.out.1; omega) (HX3.out.below hbW HX3.out.lt))
                have HV4 := hidp (hs.ownH (HV3.out.to hbW (Nat.le_refl _)) (HR3.out.below hbW HR3.out.lt) (by decide)); have HB4 := hidp (hs.below' (HB3.out.trans (hbW.mono HB3.out.size)) hrw.out)
                clear hbW hs harr HR3 HD3 HX3 HV3 HB3
                go_wp2_with fail
                obtain ⟨U, hU⟩ : ∃ U, ({ w7 with drawn := w7.drawn + 1 } : World) = U := ⟨_, rfl⟩
                have bU : Below w7.heap.size w7 U := by rw [← hU]; exact (Below.refl _ _).drew
                have HR7 := hidp (HR4.out.below bU HR4.out.lt); have HD7 := hidp (HD4.out.below bU HD4.out.lt); have HX7 := hidp (HX4.out.below bU HX4.out.lt); have HB7 := hidp (HB4.out.trans (bU.mono HB4.out.size)); have HV7 := hidp (HV4.out.to bU (Nat.le_refl _))
                clear bU HR4 HD4 HX4 HB4 HV4
                refine wp_region_noPanic ?_
                refine wp_region_scr (S := fun W => Arr W b10 45 [.string S, .int .i64 (h : Int), .int .i64 ((M : Int) + 1), .slice av nl cv]) (.take 0 (.take 1 (.take 2 (.take 3 (.take 4 (.take 5 (.take 6 (.take 7 (.take 8 (.take 9 (.take 11 (.take 12 (.one 10 (.take 13 (.take 14 .done))))))))))))))) (by kernel_rfl) (by kernel_rfl) (fun _ _ _ _ _ h => h) (by simp [Scr.depth]) (by kernel_rfl) (by rw [hU]; exact HX7.out) ?_
                simp only [hU]
                clear hU
                apply s_val
                case ho => rfl
                case hw => rfl
                case hv => intro w hw; obtain ⟨x0, x1, x2, x3, -⟩ := arr4k hw; go_simp; first | done | with_reducible rfl | rfl
                simp only [Act.put, List.getElem_toArray, List.getElem_cons_zero, List.getElem_cons_succ, List.setIfInBounds_toArray, List.set_cons_zero, List.set_cons_succ]
                apply s_val
                case ho => rfl
                case hw => rfl
                case hv => intro w hw; obtain ⟨x0, x1, x2, x3, -⟩ := arr4k hw; go_simp; first | done | with_reducible rfl | rfl
                simp only [Act.put, List.getElem_toArray, List.getElem_cons_zero, List.getElem_cons_succ, List.setIfInBounds_toArray, List.set_cons_zero, List.set_cons_succ]
                apply s_val
                case ho => rfl
                case hw => rfl
                case hv => intro w hw; obtain ⟨x0, x1, x2, x3, -⟩ := arr4k hw; go_simp; first | done | with_reducible rfl | rfl
                simp only [Act.put, List.getElem_toArray, List.getElem_cons_zero, List.getElem_cons_succ, List.setIfInBounds_toArray, List.set_cons_zero, List.set_cons_succ]
                apply s_val
                case ho => rfl
                case hw => rfl
                case hv => intro w hw; obtain ⟨x0, x1, x2, x3, -⟩ := arr4k hw; go_simp; first | done | with_reducible rfl | rfl
                simp only [Act.put, List.getElem_toArray, List.getElem_cons_zero, List.getElem_cons_succ, List.setIfInBounds_toArray, List.set_cons_zero, List.set_cons_succ]
                apply s_val
                case ho => rfl
                case hw => rfl
                case hv => intro w hw; obtain ⟨x0, x1, x2, x3, -⟩ := arr4k hw; go_simp; first | done | with_reducible rfl | rfl
                simp only [Act.put, List.getElem_toArray, List.getElem_cons_zero, List.getElem_cons_succ, List.setIfInBounds_toArray, List.set_cons_zero, List.set_cons_succ]
                apply s_val
                case ho => rfl
                case hw => rfl
                case hv => intro w hw; obtain ⟨x0, x1, x2, x3, -⟩ := arr4k hw; go_simp; first | done | with_reducible rfl | rfl
                simp only [Act.put, List.getElem_toArray, List.getElem_cons_zero, List.getElem_cons_succ, List.setIfInBounds_toArray, List.set_cons_zero, List.set_cons_succ]
                apply s_val
                case ho => rfl
                case hw => rfl
                case hv => intro w hw; obtain ⟨x0, x1, x2, x3, -⟩ := arr4k hw; go_simp; first | done | with_reducible rfl | rfl
                simp only [Act.put, List.getElem_toArray, List.getElem_cons_zero, List.getElem_cons_succ, List.setIfInBounds_toArray, List.set_cons_zero, List.set_cons_succ]
                apply s_val
                case ho => rfl
                case hw => rfl
                case hv => intro w hw; obtain ⟨x0, x1, x2, x3, -⟩ := arr4k hw; go_simp; first | done | with_reducible rfl | rfl
                simp only [Act.put, List.getElem_toArray, List.getElem_cons_zero, List.getElem_cons_succ, List.setIfInBounds_toArray, List.set_cons_zero, List.set_cons_succ]
                apply s_val
                case ho => rfl
                case hw => rfl
                case hv => intro w hw; obtain ⟨x0, x1, x2, x3, -⟩ := arr4k hw; go_simp; first | done | with_reducible rfl | rfl
                simp only [Act.put, List.getElem_toArray, List.getElem_cons_zero, List.getElem_cons_succ, List.setIfInBounds_toArray, List.set_cons_zero, List.set_cons_succ]
                apply s_val
                case ho => rfl
                case hw => rfl
                case hv => intro w hw; obtain ⟨x0, x1, x2, x3, -⟩ := arr4k hw; go_simp; first | done | with_reducible rfl | rfl
                simp only [Act.put, List.getElem_toArray, List.getElem_cons_zero, List.getElem_cons_succ, List.setIfInBounds_toArray, List.set_cons_zero, List.set_cons_succ]
                apply s_val
                case ho => rfl
                case hw => rfl
                case hv => intro w hw; obtain ⟨x0, x1, x2, x3, -⟩ := arr4k hw; go_simp; first | done | with_reducible rfl | rfl
                simp only [Act.put, List.getElem_toArray, List.getElem_cons_zero, List.getElem_cons_succ, List.setIfInBounds_toArray, List.set_cons_zero, List.set_cons_succ]
                apply s_val
                case ho => rfl
                case hw => rfl
                case hv => intro w hw; obtain ⟨x0, x1, x2, x3, -⟩ := arr4k hw; go_simp; first | done | with_reducible rfl | rfl
                simp only [Act.put, List.getElem_toArray, List.getElem_cons_zero, List.getElem_cons_succ, List.setIfInBounds_toArray, List.set_cons_zero, List.set_cons_succ]
                apply o_call (f := 28) (args := #[.pointer (some ⟨br, 0, none⟩)]) (v := .agg #[.string S, .int .i64 (h : Int), .int .i64 ((M : Int) + 1)]) (hc := krKey_any _ _ _ _ _ HR7.out)
                case ho => rfl
                case hw => rfl
                case hop => go_simp; first | done | rfl
                rintro W8 hb
                refine ⟨HX7.out.below hb HX7.out.lt, ?_⟩
                have HR8 := hidp (HR7.out.below hb HR7.out.lt); have HD8 := hidp (HD7.out.below hb HD7.out.lt); have HX8 := hidp (HX7.out.below hb HX7.out.lt); have HB8 := hidp (HB7.out.trans (hb.mono HB7.out.size)); have HV8 := hidp (HV7.out.to hb (Nat.le_refl _))
                clear hb HR7 HD7 HX7 HB7 HV7
                simp only [Act.put, List.getElem_toArray, List.getElem_cons_zero, List.getElem_cons_succ, List.setIfInBounds_toArray, List.set_cons_zero, List.set_cons_succ]
                apply s_val (v := .bool false)
                case ho => rfl
                case hw => rfl
                case hv => intro w hw; have q := eqin_key w S (h : Int) ((M : Int) + 1); go_simp; first | done | rfl
                simp only [Act.put, List.getElem_toArray, List.getElem_cons_zero, List.getElem_cons_succ, List.setIfInBounds_toArray, List.set_cons_zero, List.set_cons_succ]
                apply s_val
                case ho => rfl
                case hw => rfl
                case hv => intro w hw; obtain ⟨x0, x1, x2, x3, -⟩ := arr4k hw; go_simp; first | done | with_reducible rfl | rfl
                simp only [Act.put, List.getElem_toArray, List.getElem_cons_zero, List.getElem_cons_succ, List.setIfInBounds_toArray, List.set_cons_zero, List.set_cons_succ]
                refine NoPanic.normal ?_
                go_wp2_with (first
                  | (refine wpL_getD rfl (.tmp 10) rfl b10 _ _ _ _ rfl HX8.out ?_)
                  | (refine wpL_putD rfl (.tmp 7) (.tmp 101) rfl b7 (.string S) (.int .i64 (h : Int)) (.int .i64 ((M : Int) + 1)) (.slice av nl cv) rfl rfl (by simp [Value.oneCell']) _ _ _ _ HD8.out ?_; intro w9 ha hp; have HR9 := hidp (hp.arr (by have := hr7.out; omega) HR8.out); have HD9 := hidp ha; have HB9 := hidp (hp.below' HB8.out h7w.out); have HV9 := hidp (hp.ownH HV8.out HD8.out (by decide)); clear ha hp HR8 HD8 HB8 HV8))
                exact ⟨⟨k + 1, M + 1, by go_num, by omega, by exact_mod_cast kyOk_next HOK.out hMlt.out, by exact_mod_cast HR9.out, by exact_mod_cast HD9.out, HV9.out, HB9.out⟩, by simp [intOf]; omega⟩
          · have e5 : decide ((k : Int) < (n : Int)) = false := by simp; omega
            go_wp2_with fail
            go_ret
            exact ⟨rfl, HB.out⟩
end Go.Proofs.YtgfdhgnkanekhaaDoor

namespace Go.Proofs.YtgfdhgnkanekhaaDoor
set_option maxRecDepth 100000
set_option linter.unusedVariables false
set_option linter.unusedSimpArgs false
open Go.RowKit Go.ChangeShapes Go.WideShapes Go.ChangeAt

theorem sized_agg {H : Type} {P : Program} {ts : List TypeId} {ds : List (DataW H)} (h : (DataW.weightsEach P ts ds).all (· ≤ reachBytes) = true) {j : Nat} {t : TypeId} {parts : List (DataW H)} {fs : Array Field}
    (ht : ts[j]? = some t) (hd : ds[j]? = some (.agg parts)) (hu : P.underlying t = some (.struct fs)) : (DataW.weightsEach P (fs.toList.map (·.type)) parts).all (· ≤ reachBytes) = true := by
  rw [List.all_eq_true]
  intro x hx
  exact List.all_eq_true.1 h x (DataW.weights_mem_each ht hd x (by simp only [DataW.weights, hu]; exact hx))
section
variable {H : Type} {enc : TypeId × Value → H} {w : World} {base : Nat} {spare : Nat → Bool} {held : Bool}
theorem open_key {r : Reach} {b0 : Nat} {v : Value} {d : DataW H} {ps : List MemPlace} (hval : Value.okWide Tryd.prog w r b0 23 v) (hd : DataW.Trod enc Tryd.prog w base spare held 23 v d ps) :
    ∃ (s : ByteArray) (x y : Int), v = .agg #[.string s, .int .i64 x, .int .i64 y] ∧ (Lit.int .i64 x).wf = true ∧ (Lit.int .i64 y).wf = true ∧ d = .agg [.lit (.string s.data.toList), .lit (.int .i64 x), .lit (.int .i64 y)] := by
  obtain ⟨v0, v1, v2, y0, y1, y2, n, rfl, hd1, -, h0, h1, h2⟩ := Go.Joins.open_agg3 Tryd.underlying23 (by kernel_rfl) (by kernel_rfl) hval hd
  obtain ⟨s, hs, hy0, _⟩ := DataW.trod_string Tryd.underlying9 h0
  obtain ⟨x, hx, hy1, wx⟩ := DataW.trod_int Tryd.underlying3 h1
  obtain ⟨y, hy, hy2, wy⟩ := DataW.trod_int Tryd.underlying3 h2
  simp at hs hx hy
  subst hs hx hy
  exact ⟨s, x, y, rfl, wx, wy, by rw [hd1, hy0, hy1, hy2]⟩
end
end Go.Proofs.YtgfdhgnkanekhaaDoor

namespace Go.Proofs.YtgfdhgnkanekhaaDoor.keyRings
open Go.ChangeShapes Go.WideShapes Go.ChangeAt Go.RowKit
open Go.ChangeMaps (open_string shut_string)
open Go.ChangeShapes (open_strings)
set_option linter.unusedVariables false

theorem own : ownKnob Tryd.prog.godebug = none := by kernel_rfl
theorem laidOut : laidOutB Tryd.prog = true := by kernel_rfl

set_option maxRecDepth 100000 in
theorem contract (H : Type) (enc : TypeId × Value → H) (W : World) (base : Nat) (args : Array Value) (ds gs : List (DataW H)) (before : List MemPlace)
    (hval0 : ∀ (j : Nat) t v, Tryd.f6.params[j]? = some t → args[j]? = some v → Value.okWide Tryd.prog W .any base t v)
    (hW : DataW.Whole enc Tryd.prog Tryd.f6.params.toList Rows.keyRingsSpec.vars false W args.toList ds gs before)
    (hsz0 : (DataW.weightsEach Tryd.prog (Tryd.f6.params.toList ++ Rows.keyRingsSpec.plain.varTypes Tryd.prog) (ds ++ gs)).all (· ≤ reachBytes) = true)
    (hL : laidMetH Tryd.prog Rows.keyRingsRow.laid W) :
    Calls Tryd.prog 6 args W fun e W' => ∃ v, e = .returned v ∧ Rows.keyRingsSpec.post enc Tryd.prog Tryd.f6 false true false false W args v W' := by
  have hsz := hsz0
  have hval := hval0
  have hW' := hW
  obtain ⟨p, q, hA0, hV, rfl, hfz, hnd⟩ := hW
  have hA : DataW.TrodAll enc Tryd.prog W 0 (fun _ => true) true Tryd.f6.params.toList args.toList ds p := hA0
  rw [Tryd.params6] at hA hval hsz
  obtain ⟨v0, vs0, d0, ds0, p0, q0, hargs, rfl, rfl, h0, r0⟩ := trodAll_cons hA
  obtain ⟨v1, vs1, d1, ds1, p1, q1, rfl, rfl, rfl, h1, r1⟩ := trodAll_cons r0
  obtain ⟨rfl, rfl, rfl⟩ := trodAll_nil r1
  obtain rfl : args = #[v0, v1] := by cases args; simp_all
  obtain ⟨rfl, rfl⟩ := trodVars_none hV
  have k0 := h0
  have lt0 : ∀ x ∈ p0, x.block < W.heap.size := by obtain ⟨m, hm⟩ := k0; exact DataW.trod_lt m _ _ _ hm
  obtain ⟨a0, b0, c0, rfl, wb0, wc0, rfl⟩ := open_key (hval 0 23 v0 rfl rfl) h0
  have wa0 : a0.size ≤ 140737488351232 := by
    have := sized_string (sized_agg hsz (j := 0) rfl rfl Tryd.underlying23) (j := 0) rfl rfl
    simpa [reachBytes] using this
  obtain ⟨a1, len1, cap1, rfl⟩ := okWide_slice Tryd.underlying38 (hval 1 38 v1 rfl rfl)
  have k1 := h1
  have lt1 : ∀ x ∈ p1, x.block < W.heap.size := by obtain ⟨m, hm⟩ := k1; exact DataW.trod_lt m _ _ _ hm
  obtain ⟨z1, w1, n1, s1⟩ : ∃ ss, StrsAt W (.slice a1 len1 cap1) ss ∧ ss.length ≤ 140737488351232 ∧ ∀ s ∈ ss, s.size ≤ 140737488351232 := by
    obtain ⟨fuel, hf⟩ := h1
    rcases open_strings Tryd.underlying38 Tryd.underlying9 (by kernel_rfl) hf with ⟨hcs, _⟩ | ⟨x, l, c, zs, hcs, _, hl, hm, hz, hx, hcell, hwz⟩
    · simp [Value.cells] at hcs
      obtain ⟨rfl, rfl, rfl⟩ := hcs
      exact ⟨[], strsNil _, by simp, by simp⟩
    · simp [Value.cells] at hcs
      obtain ⟨rfl, rfl, rfl⟩ := hcs
      simp only [Prod.mk.injEq] at hx
      obtain ⟨hd, -⟩ := hx
      exact strs_of_open hsz (j := 1) rfl (by rw [hd]; rfl) Tryd.underlying38 (by kernel_rfl) hl (by simpa using hz) hcell
  clear hA0 hval0
  simp only [List.append_nil] at hW'
  refine (walk_keyRings W a0 b0 c0 wa0 wb0 wc0 _ z1 w1 n1 s1 (kt_of_laid (rest := []) hL)).mono fun e W' ⟨he, bel⟩ => ?_
  subst he
  exact ⟨_, rfl, _, _, _, [], _, [], hW', trodAll_mk1 (shut_bool Tryd.underlying4 _), (trodAll_cons_mk (Below.trod laidOut (by kernel_rfl) (of_decide_eq_true (by kernel_rfl)) k0 bel lt0) (trodAll_cons_mk (Below.trod laidOut (by kernel_rfl) (of_decide_eq_true (by kernel_rfl)) k1 bel lt1) trodAll_mk0)), rfl, bel.frame _, fun h => by cases h⟩

noncomputable def laidWorld (os : Os) : World :=
  { World.holding Tryd.prog os ⟨#[], #[], []⟩ with heap := (World.holding Tryd.prog os ⟨#[], #[], []⟩).heap.modify 0 fun
      | .cells _ t frozen => .cells (u32s kk).toArray t frozen
      | o => o }
theorem laid_met (os : Os) : laidMet Tryd.prog Rows.keyRingsRow.laid ((laidWorld os).forCall (fun _ _ => 0) ⟨#[], #[.agg #[.string ByteArray.empty, .int .i64 0, .int .i64 0], .slice none 0 0], []⟩).memory :=
  laidMet_of_run' 8 (by kernel_rfl) (by kernel_rfl)
theorem reads (os : Os) {H : Type} (enc : TypeId × Value → H) : ∃ places, DataW.whole enc Tryd.prog ((laidWorld os).forCall (fun _ _ => 0) ⟨#[], #[.agg #[.string ByteArray.empty, .int .i64 0, .int .i64 0], .slice none 0 0], []⟩).memory Tryd.f6.params.toList Rows.keyRingsSpec.vars false (#[.agg #[.string ByteArray.empty, .int .i64 0, .int .i64 0], .slice none 0 0] : Array Value).toList 8 = some ([.agg [.lit (.string []), .lit (.int .i64 0), .lit (.int .i64 0)], .nil], [], places) :=
  ⟨[], by kernel_rfl⟩

set_option maxRecDepth 100000 in
theorem lifted (os : Os) (started : os.Started) (H : Type) (enc : TypeId × Value → H) (G : Stop.Interp) :
    ReturnsInHanded {} Tryd.checked os 6 .any ((OpenSpec.ofChange Rows.keyRingsSpec).preRow enc Tryd.prog Tryd.f6 Rows.keyRingsRow.domain false Rows.keyRingsRow.laid) (((OpenSpec.ofChange Rows.keyRingsSpec).at G).post enc Tryd.prog Tryd.f6 false true false false) := by
  obtain ⟨places, hx⟩ := reads os enc
  refine returnsInHanded_of_row (C := Tryd.checked) (s := OpenSpec.ofChange Rows.keyRingsSpec) own started (by kernel_rfl) Tryd.func6
    (witness_row_at (enc := enc) (C := Tryd.checked) false (laidWorld os) #[.agg #[.string ByteArray.empty, .int .i64 0, .int .i64 0], .slice none 0 0] rfl (by kernel_rfl) (by kernel_rfl) (by kernel_rfl)
      (OpenSpec.preRow_of_cond 8 hx (by kernel_rfl) (fun k hk => by cases hk) (by kernel_rfl) (laid_met os))) ?_
  intro W base args ds gs before hval hW _ _ hsz hL _ _
  exact contract H enc W base args ds gs before hval hW hsz hL

theorem said : Rows.KeyRingsSaid :=
  OpenClaim.holds_of_cond 6 Tryd.f6 rfl rfl rfl rfl rfl rfl rfl ⟨rfl, rfl, rfl, rfl, rfl⟩ rfl rfl rfl rfl rfl (by kernel_rfl) Tryd.func6 (by kernel_rfl)
    (of_decide_eq_true (by kernel_rfl)) (by unfold Func.isWrapper; first | (rw [if_pos (by decide +kernel)]; kernel_rfl) | (rw [if_neg (by decide +kernel)]; exact ⟨rfl, rfl⟩))
    (fun os started H enc _ G => by rw [OpenClaim.pre_eq_preRow]; exact lifted os started H enc G)

theorem plain (f : FuncId) (fn : Func) (hf : Tryd.pinned.checked.prog.funcNamed "palaver/palaverlaw05.KeyRings" = some f) (hfn : Tryd.pinned.checked.prog.funcs[f]? = some fn) :
    false = Tryd.pinned.checked.prog.looks [] ∧ ∀ (j : Nat) t, fn.params[j]? = some t → Tryd.pinned.checked.prog.wantsStandIn t = false := by
  obtain rfl : f = 6 := Option.some.inj ((show Tryd.prog.funcNamed "palaver/palaverlaw05.KeyRings" = some 6 by kernel_rfl).symm.trans hf) |>.symm
  obtain rfl : fn = Tryd.f6 := (Option.some.inj (Tryd.func6.symm.trans hfn)).symm
  refine ⟨by kernel_rfl, fun j t ht => ?_⟩
  rw [Tryd.params6] at ht
  have hm : t = 23 ∨ t = 38 := by simpa using Array.mem_of_getElem? ht
  rcases hm with rfl | rfl
  · exact (show Tryd.prog.wantsStandIn 23 = false by kernel_rfl)
  · exact (show Tryd.prog.wantsStandIn 38 = false by kernel_rfl)

theorem proved : Rows.KeyRingsCardSaid :=
  Claim7.holds_tied_plain_at .later [] _ _ _ _ said (fun _ h => by cases h) (by kernel_rfl) (fun _ h => by cases h) keyRings_row_tie rfl ⟨rfl, rfl⟩ (by kernel_rfl) rfl plain (by kernel_rfl)
end Go.Proofs.YtgfdhgnkanekhaaDoor.keyRings
