/-
  KeyBack.
-/
import Derived.Test.YteilpmfdpceknaaDoorKyU
import Derived.Test.YteilpmfdpceknaaDoorFrmH
import Derived.Test.YteilpmfdpceknaaDoorOctP
import Derived.Lib.SmallJoins
import Derived.Deep.DeepWitnessRowRef

namespace Go.Proofs.YteilpmfdpceknaaDoor
set_option maxRecDepth 100000
set_option linter.unusedVariables false
set_option linter.unusedSimpArgs false
open Go.RowKit

theorem kyOk_next {S : ByteArray} {h m : Nat} (hok : kyOk S h m = true) (hm : m < 2 ^ h) : kyOk S h ((m : Int) + 1) = true := by
  unfold kyOk at hok ⊢
  simp only [Bool.and_eq_true, decide_eq_true_eq, Int.toNat_natCast] at hok ⊢
  refine ⟨hok.1, by omega, ?_⟩
  have : ((m + 1 : Nat) : Int) ≤ ((2 ^ h : Nat) : Int) := by exact_mod_cast hm
  omega

set_option maxHeartbeats 16000000 in
theorem walk_keyBack (w : World) (S : ByteArray) (H N : Int) (hS : S.size ≤ 140737488351232) (hH : (Lit.int .i64 H).wf = true) (hN : (Lit.int .i64 N).wf = true) (v : Value) (zs : List ByteArray) (hz : StrsAt w v zs) (hl : zs.length ≤ 140737488351232) (hzs : ∀ s ∈ zs, s.size ≤ 140737488351232) (hK : KT w) :
    Calls Tryd.prog 5 #[.agg #[.string S, .int .i64 H, .int .i64 N], v] w fun e w' => e = .returned (.bool true) ∧ Below w.heap.size w w' := by
  have L := hidp (fun W (h : KT W) => lives5_any W h)
  have HK := hidp hK; have hkp := hK.pos; clear hK
  obtain ⟨av, cv, rfl, hcell0⟩ := hz
  have HC := hidp hcell0; clear hcell0
  obtain ⟨n, hn⟩ : ∃ n, zs.length = n := ⟨_, rfl⟩
  have HN := hidp hn
  rw [hn] at hl ⊢
  clear hn
  have hRl := hidp (keyR_len S H N)
  have c1 := hidp (fun W (k : KT W) => kroot_any W S H N k)
  obtain ⟨R, hR⟩ : ∃ R, keyR S H N = R := ⟨_, rfl⟩
  rw [hR] at hRl c1
  cases hok : kyOk S H N with
  | false =>
    have hE : kyE S H N = 2 := by unfold kyE; rw [hok]; rfl
    rw [hE] at c1
    clear hE hok hR
    by_cases h4 : 4 < H
    · have e2 : decide (H > 4) = true := by simp; omega
      have n2 : 4 < H := h4
      by_cases h7 : H ≤ 7
      · have e3 : decide (H ≤ 7) = true := by simp; omega
        go_enter Tryd.func5, Tryd.ntmps5
        go_wp2_with (refine wpL_boxK rfl _ rfl [.string S, .int .i64 H, .int .i64 N] rfl ?_; intro b2 w0 n2; have HA0 := hidp n2.arr; have HB0 := hidp n2.below; have h2w := hidp n2.le; clear n2)
        refine (L.out _ (HK.out.below HB0.out hkp)).mono ?_
        rintro e w1 ⟨rfl, hb1⟩
        have HB1 := hidp (HB0.out.trans (hb1.mono HB0.out.size))
        have HA1 := hidp (HA0.out.below hb1 HA0.out.lt)
        clear hb1 HB0 HA0
        obtain ⟨x0, x1, x2, -⟩ := arr3k HA1.out
        go_wp2_with fail
        clear x0 x1 x2
        refine (c1.out _ (HK.out.below HB1.out hkp)).mono ?_
        rintro e w2 ⟨rfl, hb2⟩
        have HB2 := hidp (HB1.out.trans (hb2.mono HB1.out.size))
        have HA2 := hidp (HA1.out.below hb2 HA1.out.lt)
        clear hb2 HB1 HA1
        have hs2 := HA2.out.lt
        go_wp2_with (first | (refine wpL_new rfl rfl ?_; intro b5 w3 n5) | (refine wpL_put rfl (.tmp 5) (.tmp 19) rfl b5 R rfl rfl hRl.out (u8s z32) rfl n5.arr ?_; intro w4 ha hp; have HR4 := hidp ha; have HA4 := hidp (hp.old (n5.old HA2.out) (by have := n5.at_; omega)); have HB4 := hidp (HB2.out.trans ((n5.put hp).mono HB2.out.size)); have h25 := hidp (show b2 < b5 from by have := n5.at_; omega); have h5w := hidp (show w.heap.size ≤ b5 from by have := n5.at_; have := HB2.out.size; omega); clear ha hp n5 HA2 HB2 hs2; obtain ⟨x0, x1, x2, -⟩ := arr3k HA4.out))
        clear x0 x1 x2
        go_ret
        exact ⟨rfl, HB4.out⟩
      · have e3 : decide (H ≤ 7) = false := by simp; omega
        go_enter Tryd.func5, Tryd.ntmps5
        go_wp2_with (refine wpL_boxK rfl _ rfl [.string S, .int .i64 H, .int .i64 N] rfl ?_; intro b2 w0 n2; have HA0 := hidp n2.arr; have HB0 := hidp n2.below; have h2w := hidp n2.le; clear n2)
        refine (L.out _ (HK.out.below HB0.out hkp)).mono ?_
        rintro e w1 ⟨rfl, hb1⟩
        have HB1 := hidp (HB0.out.trans (hb1.mono HB0.out.size))
        have HA1 := hidp (HA0.out.below hb1 HA0.out.lt)
        clear hb1 HB0 HA0
        obtain ⟨x0, x1, x2, -⟩ := arr3k HA1.out
        go_wp2_with fail
        clear x0 x1 x2
        refine (c1.out _ (HK.out.below HB1.out hkp)).mono ?_
        rintro e w2 ⟨rfl, hb2⟩
        have HB2 := hidp (HB1.out.trans (hb2.mono HB1.out.size))
        have HA2 := hidp (HA1.out.below hb2 HA1.out.lt)
        clear hb2 HB1 HA1
        have hs2 := HA2.out.lt
        go_wp2_with (first | (refine wpL_new rfl rfl ?_; intro b5 w3 n5) | (refine wpL_put rfl (.tmp 5) (.tmp 19) rfl b5 R rfl rfl hRl.out (u8s z32) rfl n5.arr ?_; intro w4 ha hp; have HR4 := hidp ha; have HA4 := hidp (hp.old (n5.old HA2.out) (by have := n5.at_; omega)); have HB4 := hidp (HB2.out.trans ((n5.put hp).mono HB2.out.size)); have h25 := hidp (show b2 < b5 from by have := n5.at_; omega); have h5w := hidp (show w.heap.size ≤ b5 from by have := n5.at_; have := HB2.out.size; omega); clear ha hp n5 HA2 HB2 hs2; obtain ⟨x0, x1, x2, -⟩ := arr3k HA4.out))
        clear x0 x1 x2
        go_ret
        exact ⟨rfl, HB4.out⟩
    · have e2 : decide (H > 4) = false := by simp; omega
      have n2 : ¬ 4 < H := h4
      go_enter Tryd.func5, Tryd.ntmps5
      go_wp2_with (refine wpL_boxK rfl _ rfl [.string S, .int .i64 H, .int .i64 N] rfl ?_; intro b2 w0 n2; have HA0 := hidp n2.arr; have HB0 := hidp n2.below; have h2w := hidp n2.le; clear n2)
      refine (L.out _ (HK.out.below HB0.out hkp)).mono ?_
      rintro e w1 ⟨rfl, hb1⟩
      have HB1 := hidp (HB0.out.trans (hb1.mono HB0.out.size))
      have HA1 := hidp (HA0.out.below hb1 HA0.out.lt)
      clear hb1 HB0 HA0
      obtain ⟨x0, x1, x2, -⟩ := arr3k HA1.out
      go_wp2_with fail
      clear x0 x1 x2
      refine (c1.out _ (HK.out.below HB1.out hkp)).mono ?_
      rintro e w2 ⟨rfl, hb2⟩
      have HB2 := hidp (HB1.out.trans (hb2.mono HB1.out.size))
      have HA2 := hidp (HA1.out.below hb2 HA1.out.lt)
      clear hb2 HB1 HA1
      have hs2 := HA2.out.lt
      go_wp2_with (first | (refine wpL_new rfl rfl ?_; intro b5 w3 n5) | (refine wpL_put rfl (.tmp 5) (.tmp 19) rfl b5 R rfl rfl hRl.out (u8s z32) rfl n5.arr ?_; intro w4 ha hp; have HR4 := hidp ha; have HA4 := hidp (hp.old (n5.old HA2.out) (by have := n5.at_; omega)); have HB4 := hidp (HB2.out.trans ((n5.put hp).mono HB2.out.size)); have h25 := hidp (show b2 < b5 from by have := n5.at_; omega); have h5w := hidp (show w.heap.size ≤ b5 from by have := n5.at_; have := HB2.out.size; omega); clear ha hp n5 HA2 HB2 hs2; obtain ⟨x0, x1, x2, -⟩ := arr3k HA4.out))
      clear x0 x1 x2
      go_ret
      exact ⟨rfl, HB4.out⟩
  | true =>
    have hE : kyE S H N = 0 := by unfold kyE; rw [hok]; rfl
    obtain ⟨⟨s1, s2⟩, ⟨q1, q2⟩, q3, q4⟩ := kyOk_parts hok
    have HR2 := hidp (show R = rootV (leafL S.data.toList H.toNat) from by rw [← hR]; exact if_pos hok)
    rw [hE] at c1
    clear hE hR
    by_cases h4 : 4 < H
    · have e2 : decide (H > 4) = true := by simp; omega
      have e3 : decide (H ≤ 7) = true := by simp; omega
      clear hok
      go_enter Tryd.func5, Tryd.ntmps5
      go_wp2_with (refine wpL_boxK rfl _ rfl [.string S, .int .i64 H, .int .i64 N] rfl ?_; intro b2 w0 n2; have HA0 := hidp n2.arr; have HB0 := hidp n2.below; have h2w := hidp n2.le; clear n2)
      refine (L.out _ (HK.out.below HB0.out hkp)).mono ?_
      rintro e w1 ⟨rfl, hb1⟩
      have HB1 := hidp (HB0.out.trans (hb1.mono HB0.out.size))
      have HA1 := hidp (HA0.out.below hb1 HA0.out.lt)
      clear hb1 HB0 HA0
      obtain ⟨x0, x1, x2, -⟩ := arr3k HA1.out
      go_wp2_with fail
      clear x0 x1 x2
      refine (c1.out _ (HK.out.below HB1.out hkp)).mono ?_
      rintro e w2 ⟨rfl, hb2⟩
      have HB2 := hidp (HB1.out.trans (hb2.mono HB1.out.size))
      have HA2 := hidp (HA1.out.below hb2 HA1.out.lt)
      clear hb2 HB1 HA1
      have hs2 := HA2.out.lt
      go_wp2_with (first | (refine wpL_new rfl rfl ?_; intro b5 w3 n5) | (refine wpL_put rfl (.tmp 5) (.tmp 19) rfl b5 R rfl rfl hRl.out (u8s z32) rfl n5.arr ?_; intro w4 ha hp; have HR4 := hidp ha; have HA4 := hidp (hp.old (n5.old HA2.out) (by have := n5.at_; omega)); have HB4 := hidp (HB2.out.trans ((n5.put hp).mono HB2.out.size)); have h25 := hidp (show b2 < b5 from by have := n5.at_; omega); have h5w := hidp (show w.heap.size ≤ b5 from by have := n5.at_; have := HB2.out.size; omega); clear ha hp n5 HA2 HB2 hs2; obtain ⟨x0, x1, x2, -⟩ := arr3k HA4.out))
      clear x0 x1 x2
      go_ret
      exact ⟨rfl, HB4.out⟩
    · have e2 : decide (H > 4) = false := by simp; omega
      have n2 : ¬ 4 < H := h4
      by_cases h40 : 40 < n
      · have e4 : decide ((n : Int) > 40) = true := by simp; omega
        clear hok
        go_enter Tryd.func5, Tryd.ntmps5
        go_wp2_with (refine wpL_boxK rfl _ rfl [.string S, .int .i64 H, .int .i64 N] rfl ?_; intro b2 w0 n2; have HA0 := hidp n2.arr; have HB0 := hidp n2.below; have h2w := hidp n2.le; clear n2)
        refine (L.out _ (HK.out.below HB0.out hkp)).mono ?_
        rintro e w1 ⟨rfl, hb1⟩
        have HB1 := hidp (HB0.out.trans (hb1.mono HB0.out.size))
        have HA1 := hidp (HA0.out.below hb1 HA0.out.lt)
        clear hb1 HB0 HA0
        obtain ⟨x0, x1, x2, -⟩ := arr3k HA1.out
        go_wp2_with fail
        clear x0 x1 x2
        refine (c1.out _ (HK.out.below HB1.out hkp)).mono ?_
        rintro e w2 ⟨rfl, hb2⟩
        have HB2 := hidp (HB1.out.trans (hb2.mono HB1.out.size))
        have HA2 := hidp (HA1.out.below hb2 HA1.out.lt)
        clear hb2 HB1 HA1
        have hs2 := HA2.out.lt
        go_wp2_with (first | (refine wpL_new rfl rfl ?_; intro b5 w3 n5) | (refine wpL_put rfl (.tmp 5) (.tmp 19) rfl b5 R rfl rfl hRl.out (u8s z32) rfl n5.arr ?_; intro w4 ha hp; have HR4 := hidp ha; have HA4 := hidp (hp.old (n5.old HA2.out) (by have := n5.at_; omega)); have HB4 := hidp (HB2.out.trans ((n5.put hp).mono HB2.out.size)); have h25 := hidp (show b2 < b5 from by have := n5.at_; omega); have h5w := hidp (show w.heap.size ≤ b5 from by have := n5.at_; have := HB2.out.size; omega); clear ha hp n5 HA2 HB2 hs2; obtain ⟨x0, x1, x2, -⟩ := arr3k HA4.out))
        clear x0 x1 x2
        go_ret
        exact ⟨rfl, HB4.out⟩
      · have e4 : decide ((n : Int) > 40) = false := by simp; omega
        obtain ⟨h, rfl⟩ : ∃ h : Nat, H = h := ⟨H.toNat, by omega⟩
        obtain ⟨m, rfl⟩ : ∃ m : Nat, N = m := ⟨N.toNat, by omega⟩
        rw [Int.toNat_natCast] at HR2
        have hh4 : h ≤ 4 := by omega
        have HOK0 := hidp hok
        clear hok q1 q2 q3 q4
        go_enter Tryd.func5, Tryd.ntmps5
        go_wp2_with (refine wpL_boxK rfl _ rfl [.string S, .int .i64 (h : Int), .int .i64 (m : Int)] rfl ?_; intro b2 w0 n2; have HA0 := hidp n2.arr; have HB0 := hidp n2.below; have h2w := hidp n2.le; clear n2)
        refine (L.out _ (HK.out.below HB0.out hkp)).mono ?_
        rintro e w1 ⟨rfl, hb1⟩
        have HB1 := hidp (HB0.out.trans (hb1.mono HB0.out.size))
        have HA1 := hidp (HA0.out.below hb1 HA0.out.lt)
        clear hb1 HB0 HA0
        obtain ⟨x0, x1, x2, -⟩ := arr3k HA1.out
        go_wp2_with fail
        clear x0 x1 x2
        refine (c1.out _ (HK.out.below HB1.out hkp)).mono ?_
        rintro e w2 ⟨rfl, hb2⟩
        have HB2 := hidp (HB1.out.trans (hb2.mono HB1.out.size))
        have HA2 := hidp (HA1.out.below hb2 HA1.out.lt)
        clear hb2 HB1 HA1
        have hs2 := HA2.out.lt
        go_wp2_with (first | (refine wpL_new rfl rfl ?_; intro b5 w3 n5) | (refine wpL_put rfl (.tmp 5) (.tmp 19) rfl b5 R rfl rfl hRl.out (u8s z32) rfl n5.arr ?_; intro w4 ha hp; have HR4 := hidp ha; have HA4 := hidp (hp.old (n5.old HA2.out) (by have := n5.at_; omega)); have HB4 := hidp (HB2.out.trans ((n5.put hp).mono HB2.out.size)); have h25 := hidp (show b2 < b5 from by have := n5.at_; omega); have h5w := hidp (show w.heap.size ≤ b5 from by have := n5.at_; have := HB2.out.size; omega); clear ha hp n5 HA2 HB2 hs2; obtain ⟨x0, x1, x2, -⟩ := arr3k HA4.out))
        clear x0 x1 x2
        go_loopw [52] (fun t52 wr => ∃ k M : Nat, t52 = .int .i64 (k : Int) ∧ k ≤ n ∧ kyOk S (h : Int) (M : Int) = true ∧ Arr wr b2 23 [.string S, .int .i64 (h : Int), .int .i64 (M : Int)] ∧ Arr wr b5 26 (u8s R) ∧ Below w.heap.size w wr) (fun t52 _ => n - (intOf t52).toNat)
        case atStart => exact ⟨0, m, rfl, by omega, HOK0.out, HA4.out, HR4.out, HB4.out⟩
        case round =>
          obtain ⟨k, M, rfl, hk, hokM, ha, hr, hb⟩ := hrel
          have HOK := hidp hokM; have HA5 := hidp ha; have HR5 := hidp hr; have HB5 := hidp hb
          clear hokM ha hr hb HA4 HR4 HB4
          by_cases hlt : k < n
          · have e5 : decide ((k : Int) < (n : Int)) = true := by simp; omega
            have hlt' : k < zs.length := by rw [HN.out]; exact hlt
            obtain ⟨bz, off, rfl, hcell⟩ := HC.out k hlt'
            have hcell2 := (HB5.out.cell (p := ⟨bz, off + k, none⟩) (by have := World.block_lt_of_cell? w _ hcell; simpa using this)).trans hcell
            clear hcell
            obtain ⟨t, ht⟩ : ∃ s, zs[k] = s := ⟨_, rfl⟩
            rw [ht] at hcell2
            clear ht hlt'
            by_cases h16 : 16384 < t.size
            · have e6 : decide ((t.size : Int) > 16384) = true := by simp; omega
              go_wp2_with fail
              go_ret
              exact ⟨rfl, HB5.out⟩
            · have e6 : decide ((t.size : Int) > 16384) = false := by simp; omega
              have n6 : ¬ 16384 < t.size := h16
              have hM0 : M ≤ 2 ^ h := by have := (kyOk_parts HOK.out).2.2.2; rw [Int.toNat_natCast] at this; exact_mod_cast this
              have hsh := shl_pow (h := h) (by omega)
              have hsh' : IntKind.i64.wrap (2 ^ h) = ((2 ^ h : Nat) : Int) := by rw [← hsh]; simp
              have cs := hidp (fun W (k : KT W) => ksign_any W S (h : Int) (M : Int) t (by omega) k)
              have hP16 := pow_le7 (h := h) (by omega)
              by_cases hMe : M = 2 ^ h
              · obtain ⟨g1, g2, g3⟩ := sg_over t.data.toList HOK.out (by rw [Int.toNat_natCast, hMe])
                rw [g1, g2, g3] at cs
                obtain ⟨P, hP⟩ : ∃ P, 2 ^ h = P := ⟨_, rfl⟩
                rw [hP] at hsh hsh' hMe
                have hsh1 := hidp hsh; have hsh2 := hidp hsh'
                have e7 : ((M : Int) == (P : Int)) = true := by rw [hMe]; simp
                clear g1 g2 g3 hP hMe hsh hsh' hM0 hP16
                obtain ⟨x0, x1, x2, -⟩ := arr3k HA5.out
                go_wp2_with fail
                clear x0 x1 x2
                refine (cs.out _ (HK.out.below HB5.out hkp)).mono ?_
                rintro e w6 ⟨rfl, hb6⟩
                have HB6 := hidp (HB5.out.trans (hb6.mono HB5.out.size))
                have HA6 := hidp (HA5.out.below hb6 HA5.out.lt)
                have HR6 := hidp (HR5.out.below hb6 HR5.out.lt)
                clear hb6 HB5 HA5 HR5
                go_wp2_with fail
                have HB7 := hidp (HB6.out.alloc HB6.out.size (.cells #[.string S, .int .i64 (h : Int), .int .i64 (M : Int)] 23)); have HQ7 := hidp (Arr.new w6 23 [.string S, .int .i64 (h : Int), .int .i64 (M : Int)])
                have HA7 := hidp (HA6.out.alloc (.cells #[.string S, .int .i64 (h : Int), .int .i64 (M : Int)] 23))
                have HR7 := hidp (HR6.out.alloc (.cells #[.string S, .int .i64 (h : Int), .int .i64 (M : Int)] 23))
                have h9b9 := hidp (show b2 < w6.heap.size ∧ b5 < w6.heap.size ∧ w.heap.size ≤ w6.heap.size from ⟨HA6.out.lt, HR6.out.lt, HB6.out.size⟩)
                obtain ⟨b9, hbb9⟩ : ∃ b, w6.heap.size = b := ⟨_, rfl⟩
                rw [hbb9] at h9b9
                generalize hW7 : (w6.alloc (.cells #[.string S, .int .i64 (h : Int), .int .i64 (M : Int)] 23)) = w7 at HB7 HQ7 HA7 HR7 ⊢
                rw [hbb9] at HQ7 ⊢
                clear hW7 hbb9 HB6 HA6 HR6
                obtain ⟨U, hU⟩ : ∃ U, ({ w7 with drawn := w7.drawn + 1 } : World) = U := ⟨_, rfl⟩
                have bU : Below w7.heap.size w7 U := by rw [← hU]; exact (Below.refl _ _).drew
                have HA := hidp (HA7.out.below bU HA7.out.lt); have HR := hidp (HR7.out.below bU HR7.out.lt); have HQ := hidp (HQ7.out.below bU HQ7.out.lt); have HB := hidp (HB7.out.trans (bU.mono HB7.out.size))
                clear bU HA7 HR7 HQ7 HB7
                refine wp_region_noPanic ?_
                refine wp_region_scr (S := fun W => Arr W b2 23 [.string S, .int .i64 (h : Int), .int .i64 (M : Int)]) (.take 0 (.take 1 (.take 2 (.take 3 (.take 4 (.take 5 .done)))))) (by kernel_rfl) (by kernel_rfl) (fun _ _ _ _ _ h => h) (by simp [Scr.depth]) (by kernel_rfl) (by rw [hU]; exact HA.out) ?_
                simp only [hU]
                clear hU
                apply s_val
                case ho => rfl
                case hw => rfl
                case hv => intro w hw; obtain ⟨x0, x1, x2, -⟩ := arr3k hw; go_simp; first | done | with_reducible rfl | rfl
                simp only [Act.put, List.getElem_toArray, List.getElem_cons_zero, List.getElem_cons_succ, List.setIfInBounds_toArray, List.set_cons_zero, List.set_cons_succ]
                apply s_val
                case ho => rfl
                case hw => rfl
                case hv => intro w hw; obtain ⟨x0, x1, x2, -⟩ := arr3k hw; go_simp; first | done | with_reducible rfl | rfl
                simp only [Act.put, List.getElem_toArray, List.getElem_cons_zero, List.getElem_cons_succ, List.setIfInBounds_toArray, List.set_cons_zero, List.set_cons_succ]
                apply s_val
                case ho => rfl
                case hw => rfl
                case hv => intro w hw; obtain ⟨x0, x1, x2, -⟩ := arr3k hw; go_simp; first | done | with_reducible rfl | rfl
                simp only [Act.put, List.getElem_toArray, List.getElem_cons_zero, List.getElem_cons_succ, List.setIfInBounds_toArray, List.set_cons_zero, List.set_cons_succ]
                apply s_val
                case ho => rfl
                case hw => rfl
                case hv => intro w hw; obtain ⟨x0, x1, x2, -⟩ := arr3k hw; go_simp; first | done | with_reducible rfl | rfl
                simp only [Act.put, List.getElem_toArray, List.getElem_cons_zero, List.getElem_cons_succ, List.setIfInBounds_toArray, List.set_cons_zero, List.set_cons_succ]
                apply s_val (v := .int .i64 (P : Int))
                case ho => rfl
                case hw => rfl
                case hv => intro w hw; have q1 := hsh1.out; have q2 := hsh2.out; have h0 : (0 : Int) ≤ (h : Int) := by omega
                           have h7 : (h : Int) < 64 := by omega
                           have ht : ((h : Int)).toNat = h := by simp
                           go_simp; first | done | with_reducible rfl | rfl
                simp only [Act.put, List.getElem_toArray, List.getElem_cons_zero, List.getElem_cons_succ, List.setIfInBounds_toArray, List.set_cons_zero, List.set_cons_succ]
                apply s_val
                case ho => rfl
                case hw => rfl
                case hv => intro w hw; obtain ⟨x0, x1, x2, -⟩ := arr3k hw; go_simp; first | done | with_reducible rfl | rfl
                simp only [Act.put, List.getElem_toArray, List.getElem_cons_zero, List.getElem_cons_succ, List.setIfInBounds_toArray, List.set_cons_zero, List.set_cons_succ]
                refine NoPanic.normal ?_
                have q1 := fun W => eq_key W S (h : Int) (M : Int)
                obtain ⟨x0, x1, x2, -⟩ := arr3k HA.out
                obtain ⟨y0, y1, y2, -⟩ := arr3k HQ.out
                go_wp2_with fail
                go_ret
                exact ⟨rfl, HB.out⟩
              · have hMl : M < 2 ^ h := by omega
                have hMlt := hidp hMl
                obtain ⟨g1, g2, g3⟩ := sg_yes t.data.toList HOK.out (by rw [Int.toNat_natCast]; exact_mod_cast hMe)
                rw [g1, g2, g3, Int.toNat_natCast, Int.toNat_natCast] at cs
                obtain ⟨-, hz1, hpl⟩ := sig_parts (S := S) t.data.toList (show h ≤ 7 by omega) hMl
                have hvf := vf_sign (S := S) t R (show h ≤ 7 by omega) hMl
                rw [← HR2.out, if_pos rfl] at hvf
                obtain ⟨G, hG⟩ : ∃ G, mkS (sigL S.data.toList h M t.data.toList) = G := ⟨_, rfl⟩
                rw [hG] at cs hz1 hpl hvf
                have cp := hidp (show ∀ W, Calls Tryd.prog 18 #[.int .i64 (h : Int), .string G] W fun e w' => e = .returned (.tuple #[.int .i64 (M : Int), .int .i64 0]) ∧ Below W.heap.size W w' from fun W => by
                  have := place_any W h G (by omega)
                  rw [hpl] at this; exact this)
                have cv := hidp (show ∀ W, KT W → Calls Tryd.prog 20 #[.agg (u8s R).toArray, .int .i64 (h : Int), .string t, .string G] W fun e w' => e = .returned (.int .i64 0) ∧ Below W.heap.size W w' from fun W k => by
                  have := verify_any W R hRl.out h t G (by omega) (by omega) k
                  rw [hvf] at this; exact this)
                obtain ⟨P, hP⟩ : ∃ P, 2 ^ h = P := ⟨_, rfl⟩
                rw [hP] at hsh hsh' hMe hP16 hMl
                have hsh1 := hidp hsh; have hsh2 := hidp hsh'
                have e7 : ((M : Int) == (P : Int)) = false := by rw [beq_eq_false_iff_ne]; exact_mod_cast hMe
                have hw2 : IntKind.i64.wrap ((M : Int) + 1) = (M : Int) + 1 := by rw [IntKind.wrap_i64]; omega
                clear g1 g2 g3 hP hMe hsh hsh' hM0 hP16 hz1 hpl hvf hG hMl
                obtain ⟨x0, x1, x2, -⟩ := arr3k HA5.out
                go_wp2_with fail
                clear x0 x1 x2
                refine (cs.out _ (HK.out.below HB5.out hkp)).mono ?_
                rintro e w6 ⟨rfl, hb6⟩
                have HB6 := hidp (HB5.out.trans (hb6.mono HB5.out.size))
                have HA6 := hidp (HA5.out.below hb6 HA5.out.lt)
                have HR6 := hidp (HR5.out.below hb6 HR5.out.lt)
                clear hb6 HB5 HA5 HR5
                go_wp2_with fail
                have HB7 := hidp (HB6.out.alloc HB6.out.size (.cells #[.string S, .int .i64 (h : Int), .int .i64 ((M : Int) + 1)] 23)); have HQ7 := hidp (Arr.new w6 23 [.string S, .int .i64 (h : Int), .int .i64 ((M : Int) + 1)])
                have HA7 := hidp (HA6.out.alloc (.cells #[.string S, .int .i64 (h : Int), .int .i64 ((M : Int) + 1)] 23))
                have HR7 := hidp (HR6.out.alloc (.cells #[.string S, .int .i64 (h : Int), .int .i64 ((M : Int) + 1)] 23))
                have h9b9 := hidp (show b2 < w6.heap.size ∧ b5 < w6.heap.size ∧ w.heap.size ≤ w6.heap.size from ⟨HA6.out.lt, HR6.out.lt, HB6.out.size⟩)
                obtain ⟨b9, hbb9⟩ : ∃ b, w6.heap.size = b := ⟨_, rfl⟩
                rw [hbb9] at h9b9
                generalize hW7 : (w6.alloc (.cells #[.string S, .int .i64 (h : Int), .int .i64 ((M : Int) + 1)] 23)) = w7 at HB7 HQ7 HA7 HR7 ⊢
                rw [hbb9] at HQ7 ⊢
                clear hW7 hbb9 HB6 HA6 HR6
                obtain ⟨U, hU⟩ : ∃ U, ({ w7 with drawn := w7.drawn + 1 } : World) = U := ⟨_, rfl⟩
                have bU : Below w7.heap.size w7 U := by rw [← hU]; exact (Below.refl _ _).drew
                have HA := hidp (HA7.out.below bU HA7.out.lt); have HR := hidp (HR7.out.below bU HR7.out.lt); have HQ := hidp (HQ7.out.below bU HQ7.out.lt); have HB := hidp (HB7.out.trans (bU.mono HB7.out.size))
                clear bU HA7 HR7 HQ7 HB7
                refine wp_region_noPanic ?_
                refine wp_region_scr (S := fun W => Arr W b2 23 [.string S, .int .i64 (h : Int), .int .i64 (M : Int)]) (.take 0 (.take 1 (.take 2 (.take 3 (.take 4 (.take 5 .done)))))) (by kernel_rfl) (by kernel_rfl) (fun _ _ _ _ _ h => h) (by simp [Scr.depth]) (by kernel_rfl) (by rw [hU]; exact HA.out) ?_
                simp only [hU]
                clear hU
                apply s_val
                case ho => rfl
                case hw => rfl
                case hv => intro w hw; obtain ⟨x0, x1, x2, -⟩ := arr3k hw; go_simp; first | done | with_reducible rfl | rfl
                simp only [Act.put, List.getElem_toArray, List.getElem_cons_zero, List.getElem_cons_succ, List.setIfInBounds_toArray, List.set_cons_zero, List.set_cons_succ]
                apply s_val
                case ho => rfl
                case hw => rfl
                case hv => intro w hw; obtain ⟨x0, x1, x2, -⟩ := arr3k hw; go_simp; first | done | with_reducible rfl | rfl
                simp only [Act.put, List.getElem_toArray, List.getElem_cons_zero, List.getElem_cons_succ, List.setIfInBounds_toArray, List.set_cons_zero, List.set_cons_succ]
                apply s_val
                case ho => rfl
                case hw => rfl
                case hv => intro w hw; obtain ⟨x0, x1, x2, -⟩ := arr3k hw; go_simp; first | done | with_reducible rfl | rfl
                simp only [Act.put, List.getElem_toArray, List.getElem_cons_zero, List.getElem_cons_succ, List.setIfInBounds_toArray, List.set_cons_zero, List.set_cons_succ]
                apply s_val
                case ho => rfl
                case hw => rfl
                case hv => intro w hw; obtain ⟨x0, x1, x2, -⟩ := arr3k hw; go_simp; first | done | with_reducible rfl | rfl
                simp only [Act.put, List.getElem_toArray, List.getElem_cons_zero, List.getElem_cons_succ, List.setIfInBounds_toArray, List.set_cons_zero, List.set_cons_succ]
                apply s_val (v := .int .i64 (P : Int))
                case ho => rfl
                case hw => rfl
                case hv => intro w hw; have q1 := hsh1.out; have q2 := hsh2.out; have h0 : (0 : Int) ≤ (h : Int) := by omega
                           have h7 : (h : Int) < 64 := by omega
                           have ht : ((h : Int)).toNat = h := by simp
                           go_simp; first | done | with_reducible rfl | rfl
                simp only [Act.put, List.getElem_toArray, List.getElem_cons_zero, List.getElem_cons_succ, List.setIfInBounds_toArray, List.set_cons_zero, List.set_cons_succ]
                apply s_val
                case ho => rfl
                case hw => rfl
                case hv => intro w hw; obtain ⟨x0, x1, x2, -⟩ := arr3k hw; go_simp; first | done | with_reducible rfl | rfl
                simp only [Act.put, List.getElem_toArray, List.getElem_cons_zero, List.getElem_cons_succ, List.setIfInBounds_toArray, List.set_cons_zero, List.set_cons_succ]
                refine NoPanic.normal ?_
                obtain ⟨x0, x1, x2, -⟩ := arr3k HA.out
                go_wp2_with fail
                clear x0 x1 x2
                refine (cp.out _).mono ?_
                rintro e w8 ⟨rfl, hb8⟩
                have HA8 := hidp (HA.out.below hb8 HA.out.lt); have HR8 := hidp (HR.out.below hb8 HR.out.lt); have HQ8 := hidp (HQ.out.below hb8 HQ.out.lt); have HB8 := hidp (HB.out.trans (hb8.mono HB.out.size))
                clear hb8 HA HR HQ HB
                obtain ⟨x0, x1, x2, -⟩ := arr3k HA8.out
                obtain ⟨y0, y1, y2, -⟩ := arr3k HQ8.out
                have tS := toList_yes (rfl : S = S)
                go_wp2_with (refine wpL_getg rfl (.tmp 5) rfl b5 R rfl hRl.out HR8.out ?_)
                clear x0 x1 x2 y0 y1 y2
                refine (cv.out _ (HK.out.below HB8.out hkp)).mono ?_
                rintro e w9 ⟨rfl, hb9⟩
                have HA9 := hidp (HA8.out.below hb9 HA8.out.lt); have HR9 := hidp (HR8.out.below hb9 HR8.out.lt); have HQ9 := hidp (HQ8.out.below hb9 HQ8.out.lt); have HB9 := hidp (HB8.out.trans (hb9.mono HB8.out.size))
                clear hb9 HA8 HR8 HQ8 HB8
                obtain ⟨x0, x1, x2, xf⟩ := arr3k HA9.out
                have f0 := xf 0; have f1 := xf 1; have f2 := xf 2
                clear xf
                obtain ⟨y0, y1, y2, -⟩ := arr3k HQ9.out
                go_wp2_with fail
                clear x0 x1 x2 f0 f1 f2 y0 y1 y2
                obtain ⟨w10, hw10, ha10, hp10⟩ := set3 HA9.out (.string S) (.int .i64 (h : Int)) (.int .i64 ((M : Int) + 1))
                rw [hw10]
                have HRz := hidp (hp10.arr (by have := h25.out; omega) HR9.out)
                exact ⟨⟨k + 1, M + 1, by go_num, by omega, by exact_mod_cast kyOk_next HOK.out hMlt.out, by exact_mod_cast ha10, HRz.out, hp10.below' HB9.out h2w.out⟩, by simp [intOf]; omega⟩
          · have e5 : decide ((k : Int) < (n : Int)) = false := by simp; omega
            go_wp2_with fail
            go_ret
            exact ⟨rfl, HB5.out⟩
end Go.Proofs.YteilpmfdpceknaaDoor

namespace Go.Proofs.YteilpmfdpceknaaDoor
set_option maxRecDepth 100000
set_option linter.unusedVariables false
set_option linter.unusedSimpArgs false
open Go.RowKit Go.ChangeShapes Go.WideShapes Go.ChangeAt

theorem sized_agg {H : Type} {P : Program} {ts : List TypeId} {ds : List (DataW H)} (h : (DataW.weightsEach P ts ds).all (· ≤ reachBytes) = true) {j : Nat} {t : TypeId} {parts : List (DataW H)} {fs : Array Field}
    (ht : ts[j]? = some t) (hd : ds[j]? = some (.agg parts)) (hu : P.underlying t = some (.struct fs)) : (DataW.weightsEach P (fs.toList.map (·.type)) parts).all (· ≤ reachBytes) = true := by
  rw [List.all_eq_true]
  intro x hx
  exact List.all_eq_true.1 h x (DataW.weights_mem_each ht hd x (by simp only [DataW.weights, hu]; exact hx))
section
variable {H : Type} {enc : TypeId × Value → H} {w : World} {base : Nat} {spare : Nat → Bool} {held : Bool}
theorem open_key {r : Reach} {b0 : Nat} {v : Value} {d : DataW H} {ps : List MemPlace} (hval : Value.okWide Tryd.prog w r b0 23 v) (hd : DataW.Trod enc Tryd.prog w base spare held 23 v d ps) :
    ∃ (s : ByteArray) (x y : Int), v = .agg #[.string s, .int .i64 x, .int .i64 y] ∧ (Lit.int .i64 x).wf = true ∧ (Lit.int .i64 y).wf = true ∧ d = .agg [.lit (.string s.data.toList), .lit (.int .i64 x), .lit (.int .i64 y)] := by
  obtain ⟨v0, v1, v2, y0, y1, y2, n, rfl, hd1, -, h0, h1, h2⟩ := Go.Joins.open_agg3 Tryd.underlying23 (by kernel_rfl) (by kernel_rfl) hval hd
  obtain ⟨s, hs, hy0, _⟩ := DataW.trod_string Tryd.underlying9 h0
  obtain ⟨x, hx, hy1, wx⟩ := DataW.trod_int Tryd.underlying3 h1
  obtain ⟨y, hy, hy2, wy⟩ := DataW.trod_int Tryd.underlying3 h2
  simp at hs hx hy
  subst hs hx hy
  exact ⟨s, x, y, rfl, wx, wy, by rw [hd1, hy0, hy1, hy2]⟩
end
end Go.Proofs.YteilpmfdpceknaaDoor

namespace Go.Proofs.YteilpmfdpceknaaDoor.keyBack
open Go.ChangeShapes Go.WideShapes Go.ChangeAt Go.RowKit
open Go.ChangeMaps (open_string shut_string)
open Go.ChangeShapes (open_strings)
set_option linter.unusedVariables false

theorem own : ownKnob Tryd.prog.godebug = none := by kernel_rfl
theorem laidOut : laidOutB Tryd.prog = true := by kernel_rfl

set_option maxRecDepth 100000 in
theorem contract (H : Type) (enc : TypeId × Value → H) (W : World) (base : Nat) (args : Array Value) (ds gs : List (DataW H)) (before : List MemPlace)
    (hval0 : ∀ (j : Nat) t v, Tryd.f5.params[j]? = some t → args[j]? = some v → Value.okWide Tryd.prog W .any base t v)
    (hW : DataW.Whole enc Tryd.prog Tryd.f5.params.toList Rows.keyBackSpec.vars false W args.toList ds gs before)
    (hsz0 : (DataW.weightsEach Tryd.prog (Tryd.f5.params.toList ++ Rows.keyBackSpec.plain.varTypes Tryd.prog) (ds ++ gs)).all (· ≤ reachBytes) = true)
    (hL : laidMetH Tryd.prog Rows.keyBackRow.laid W) :
    Calls Tryd.prog 5 args W fun e W' => ∃ v, e = .returned v ∧ Rows.keyBackSpec.post enc Tryd.prog Tryd.f5 false true false false W args v W' := by
  have hsz := hsz0
  have hval := hval0
  have hW' := hW
  obtain ⟨p, q, hA0, hV, rfl, hfz, hnd⟩ := hW
  have hA : DataW.TrodAll enc Tryd.prog W 0 (fun _ => true) true Tryd.f5.params.toList args.toList ds p := hA0
  rw [Tryd.params5] at hA hval hsz
  obtain ⟨v0, vs0, d0, ds0, p0, q0, hargs, rfl, rfl, h0, r0⟩ := trodAll_cons hA
  obtain ⟨v1, vs1, d1, ds1, p1, q1, rfl, rfl, rfl, h1, r1⟩ := trodAll_cons r0
  obtain ⟨rfl, rfl, rfl⟩ := trodAll_nil r1
  obtain rfl : args = #[v0, v1] := by cases args; simp_all
  obtain ⟨rfl, rfl⟩ := trodVars_none hV
  have k0 := h0
  have lt0 : ∀ x ∈ p0, x.block < W.heap.size := by obtain ⟨m, hm⟩ := k0; exact DataW.trod_lt m _ _ _ hm
  obtain ⟨a0, b0, c0, rfl, wb0, wc0, rfl⟩ := open_key (hval 0 23 v0 rfl rfl) h0
  have wa0 : a0.size ≤ 140737488351232 := by
    have := sized_string (sized_agg hsz (j := 0) rfl rfl Tryd.underlying23) (j := 0) rfl rfl
    simpa [reachBytes] using this
  obtain ⟨a1, len1, cap1, rfl⟩ := okWide_slice Tryd.underlying38 (hval 1 38 v1 rfl rfl)
  have k1 := h1
  have lt1 : ∀ x ∈ p1, x.block < W.heap.size := by obtain ⟨m, hm⟩ := k1; exact DataW.trod_lt m _ _ _ hm
  obtain ⟨z1, w1, n1, s1⟩ : ∃ ss, StrsAt W (.slice a1 len1 cap1) ss ∧ ss.length ≤ 140737488351232 ∧ ∀ s ∈ ss, s.size ≤ 140737488351232 := by
    obtain ⟨fuel, hf⟩ := h1
    rcases open_strings Tryd.underlying38 Tryd.underlying9 (by kernel_rfl) hf with ⟨hcs, _⟩ | ⟨x, l, c, zs, hcs, _, hl, hm, hz, hx, hcell, hwz⟩
    · simp [Value.cells] at hcs
      obtain ⟨rfl, rfl, rfl⟩ := hcs
      exact ⟨[], strsNil _, by simp, by simp⟩
    · simp [Value.cells] at hcs
      obtain ⟨rfl, rfl, rfl⟩ := hcs
      simp only [Prod.mk.injEq] at hx
      obtain ⟨hd, -⟩ := hx
      exact strs_of_open hsz (j := 1) rfl (by rw [hd]; rfl) Tryd.underlying38 (by kernel_rfl) hl (by simpa using hz) hcell
  clear hA0 hval0
  simp only [List.append_nil] at hW'
  refine (walk_keyBack W a0 b0 c0 wa0 wb0 wc0 _ z1 w1 n1 s1 (kt_of_laid (rest := []) hL)).mono fun e W' ⟨he, bel⟩ => ?_
  subst he
  exact ⟨_, rfl, _, _, _, [], _, [], hW', trodAll_mk1 (shut_bool Tryd.underlying4 _), (trodAll_cons_mk (Below.trod laidOut (by kernel_rfl) (of_decide_eq_true (by kernel_rfl)) k0 bel lt0) (trodAll_cons_mk (Below.trod laidOut (by kernel_rfl) (of_decide_eq_true (by kernel_rfl)) k1 bel lt1) trodAll_mk0)), rfl, bel.frame _, fun h => by cases h⟩

noncomputable def laidWorld (os : Os) : World :=
  { World.holding Tryd.prog os ⟨#[], #[], []⟩ with heap := (World.holding Tryd.prog os ⟨#[], #[], []⟩).heap.modify 0 fun
      | .cells _ t frozen => .cells (u32s kk).toArray t frozen
      | o => o }
theorem laid_met (os : Os) : laidMet Tryd.prog Rows.keyBackRow.laid ((laidWorld os).forCall (fun _ _ => 0) ⟨#[], #[.agg #[.string ByteArray.empty, .int .i64 0, .int .i64 0], .slice none 0 0], []⟩).memory :=
  laidMet_of_run' 8 (by kernel_rfl) (by kernel_rfl)
theorem reads (os : Os) {H : Type} (enc : TypeId × Value → H) : ∃ places, DataW.whole enc Tryd.prog ((laidWorld os).forCall (fun _ _ => 0) ⟨#[], #[.agg #[.string ByteArray.empty, .int .i64 0, .int .i64 0], .slice none 0 0], []⟩).memory Tryd.f5.params.toList Rows.keyBackSpec.vars false (#[.agg #[.string ByteArray.empty, .int .i64 0, .int .i64 0], .slice none 0 0] : Array Value).toList 8 = some ([.agg [.lit (.string []), .lit (.int .i64 0), .lit (.int .i64 0)], .nil], [], places) :=
  ⟨[], by kernel_rfl⟩

set_option maxRecDepth 100000 in
theorem lifted (os : Os) (started : os.Started) (H : Type) (enc : TypeId × Value → H) (G : Stop.Interp) :
    ReturnsInHanded {} Tryd.checked os 5 .any ((OpenSpec.ofChange Rows.keyBackSpec).preRow enc Tryd.prog Tryd.f5 Rows.keyBackRow.domain false Rows.keyBackRow.laid) (((OpenSpec.ofChange Rows.keyBackSpec).at G).post enc Tryd.prog Tryd.f5 false true false false) := by
  obtain ⟨places, hx⟩ := reads os enc
  refine returnsInHanded_of_row (C := Tryd.checked) (s := OpenSpec.ofChange Rows.keyBackSpec) own started (by kernel_rfl) Tryd.func5
    (witness_row_at (enc := enc) (C := Tryd.checked) false (laidWorld os) #[.agg #[.string ByteArray.empty, .int .i64 0, .int .i64 0], .slice none 0 0] rfl (by kernel_rfl) (by kernel_rfl) (by kernel_rfl)
      (OpenSpec.preRow_of_cond 8 hx (by kernel_rfl) (fun k hk => by cases hk) (by kernel_rfl) (laid_met os))) ?_
  intro W base args ds gs before hval hW _ _ hsz hL _ _
  exact contract H enc W base args ds gs before hval hW hsz hL

theorem said : Rows.KeyBackSaid :=
  OpenClaim.holds_of_cond 5 Tryd.f5 rfl rfl rfl rfl rfl rfl rfl ⟨rfl, rfl, rfl, rfl, rfl⟩ rfl rfl rfl rfl rfl (by kernel_rfl) Tryd.func5 (by kernel_rfl)
    (of_decide_eq_true (by kernel_rfl)) (by unfold Func.isWrapper; first | (rw [if_pos (by decide +kernel)]; kernel_rfl) | (rw [if_neg (by decide +kernel)]; exact ⟨rfl, rfl⟩))
    (fun os started H enc _ G => by rw [OpenClaim.pre_eq_preRow]; exact lifted os started H enc G)

theorem plain (f : FuncId) (fn : Func) (hf : Tryd.pinned.checked.prog.funcNamed "palaver/palaverlaw05.KeyBack" = some f) (hfn : Tryd.pinned.checked.prog.funcs[f]? = some fn) :
    false = Tryd.pinned.checked.prog.looks [] ∧ ∀ (j : Nat) t, fn.params[j]? = some t → Tryd.pinned.checked.prog.wantsStandIn t = false := by
  obtain rfl : f = 5 := Option.some.inj ((show Tryd.prog.funcNamed "palaver/palaverlaw05.KeyBack" = some 5 by kernel_rfl).symm.trans hf) |>.symm
  obtain rfl : fn = Tryd.f5 := (Option.some.inj (Tryd.func5.symm.trans hfn)).symm
  refine ⟨by kernel_rfl, fun j t ht => ?_⟩
  rw [Tryd.params5] at ht
  have hm : t = 23 ∨ t = 38 := by simpa using Array.mem_of_getElem? ht
  rcases hm with rfl | rfl
  · exact (show Tryd.prog.wantsStandIn 23 = false by kernel_rfl)
  · exact (show Tryd.prog.wantsStandIn 38 = false by kernel_rfl)

theorem proved : Rows.KeyBackCardSaid :=
  Claim7.holds_tied_plain_at .later [] _ _ _ _ said (fun _ h => by cases h) (by kernel_rfl) (fun _ h => by cases h) keyBack_row_tie rfl ⟨rfl, rfl⟩ (by kernel_rfl) rfl plain (by kernel_rfl)
end Go.Proofs.YteilpmfdpceknaaDoor.keyBack
