/-
  Joined: KyK KyG.
-/
import Derived.Test.YtbgooppmhgaicaaDoorUJ
namespace Go.Proofs.YtbgooppmhgaicaaDoor
set_option maxRecDepth 100000
set_option linter.unusedVariables false
set_option linter.unusedSimpArgs false
open Go.RowKit
end Go.Proofs.YtbgooppmhgaicaaDoor

namespace Go.Proofs.YtbgooppmhgaicaaDoor
set_option maxRecDepth 100000
set_option linter.unusedVariables false
set_option linter.unusedSimpArgs false
open Go.RowKit

set_option maxHeartbeats 16000000 in
theorem rverify_any (w : World) (root : List UInt8) (hr : root.length = 32) (H : Int) (t g : ByteArray) (ht : t.size ≤ 281474976710656 / 4) (hg : g.size ≤ 281474976710656) :
    Calls Tryd.prog 18 #[.agg (u8s root).toArray, .int .i64 H, .string t, .string g] w fun e w' => e = .returned (.int .i64 (vfE root H t g)) ∧ Below w.heap.size w w' := by
  have c1 := hidp (fun W => rplace_any W H g hg)
  cases hp : plV H g with
  | none =>
    have HF := hidp (show vfE root H t g = 2 from by unfold vfE; rw [hp])
    rw [hp] at c1
    unfold plT at c1
    clear hp
    go_enter Tryd.func18, Tryd.ntmps18
    go_wp2_with (refine wpL_box rfl _ rfl (u8s root) rfl ?_; intro b4 w4 n4)
    have hB4 := hidp n4.below
    have hA4 := hidp n4.arr
    have h4w := hidp n4.le
    clear n4
    refine (c1.out _).mono ?_
    rintro e w5 ⟨rfl, hb5⟩
    have HB5 := hidp (hB4.out.trans (hb5.mono hB4.out.size)); have HA5 := hidp (hA4.out.below hb5 hA4.out.lt)
    clear hb5 hB4 hA4
    go_wp2_with fail
    go_ret
    exact ⟨by rw [HF.out]; rfl, HB5.out⟩
  | some i =>
    obtain ⟨n, rfl, hn7, hgs, hin⟩ := plV_facts hp
    have hgl : g.data.toList.length = g.size := size_toList g
    obtain ⟨X, hX⟩ : ∃ X, g.data.toList.drop 1089 = X := ⟨_, rfl⟩
    have hXl : X.length = 32 * n := by rw [← hX, List.length_drop, hgl, hgs]; omega
    obtain ⟨L, hL⟩ : ∃ L, hashesL X = L := ⟨_, rfl⟩
    have hL32 := hidp (show All32 L from by rw [← hL]; exact hashesL_32 _)
    have hLl : L.length = n := by rw [← hL, hashesL_len, hXl]; omega
    have HLg := hidp (show ∀ i (hi : i < L.length), L[i]'hi = (X.drop (32 * i)).take 32 from fun i hi => by
      subst hL
      exact hashesL_get X i hi)
    obtain ⟨G1, hG1⟩ : ∃ G, g.extract 1 1089 = G := ⟨_, rfl⟩
    obtain ⟨G2, hG2⟩ : ∃ G, g.extract 1089 g.size = G := ⟨_, rfl⟩
    have d1 : G1.data.toList = (g.data.toList.drop 1).take 1088 := by rw [← hG1, ex_list]
    have d2 : G2.data.toList = X := by rw [← hG2, ex_list, hX, List.take_of_length_le (by rw [hXl, hgs]; omega)]
    have l1 : G1.data.toList.length = 1088 := by rw [d1, List.length_take, List.length_drop, hgl]; omega
    have s1 : G1.size = 1088 := by rw [← size_toList, l1]
    obtain ⟨rc, hrc⟩ : ∃ r, recV t.data.toList ((g.data.toList.drop 1).take 1088) = r := ⟨_, rfl⟩
    have hrl := hidp (show rc.length = 32 from by rw [← hrc, ← d1, recV_yes _ _ l1]; exact recL_len _ _)
    obtain ⟨fd, hfd⟩ : ∃ r, climbV rc i L = r := ⟨_, rfl⟩
    have hfl := hidp (show fd.length = 32 from by rw [← hfd]; exact climbV_len _ _ _ hrl.out)
    have HF := hidp (show vfE root n t g = if fd = root then 0 else 9 from by unfold vfE; rw [hp]; simp only; rw [hrc, hX, hL, hfd])
    have c2 := hidp (show ∀ W, Calls Tryd.prog 33 #[.string t, .string G1] W fun e w' => e = .returned (.tuple #[.agg (u8s rc).toArray, .int .i64 0]) ∧ Below W.heap.size W w' from fun W => by
      have := rrecover_any W t G1 ht (by omega)
      rw [recE_yes _ l1, d1, hrc] at this; exact this)
    have hP := pow_le7 hn7
    have hi128 : i < 128 := by omega
    have c4 := hidp (show ∀ W v, HsAt W v L → Calls Tryd.prog 34 #[.agg (u8s rc).toArray, .int .i64 (i : Int), v] W fun e w' => e = .returned (.tuple #[.agg (u8s fd).toArray, .int .i64 0]) ∧ Below W.heap.size W w' from fun W v hv => by
      have := rclimb_any W rc hrl.out i (by simp [Lit.wf, IntKind.min, IntKind.max, IntKind.signed, IntKind.bits]; omega) v L hv
      rw [hfd, show climbE L.length (i : Int) = 0 from if_pos (by rw [hLl]; exact okC_pow hn7 hin)] at this; exact this)
    rw [hp] at c1
    have q1 : 1089 ≤ g.size := by omega
    have q2 : (1089 : Int) ≤ (g.size : Int) := by omega
    unfold plT at c1
    have HLL := hidp hLl; have HXL := hidp hXl; have HD2 := hidp d2
    clear hp hL d1 d2 hX hgs hgl l1 hrc hfd hin hP hLl hXl
    go_enter Tryd.func18, Tryd.ntmps18
    go_wp2_with (refine wpL_box rfl _ rfl (u8s root) rfl ?_; intro b4 w4 n4)
    have hB4 := hidp n4.below
    have hA4 := hidp n4.arr
    have h4w := hidp n4.le
    clear n4
    refine (c1.out _).mono ?_
    rintro e w5 ⟨rfl, hb5⟩
    have HB5 := hidp (hB4.out.trans (hb5.mono hB4.out.size)); have HA5 := hidp (hA4.out.below hb5 hA4.out.lt)
    clear hb5 hB4 hA4
    go_wp2_with fail
    refine (c2.out _).mono ?_
    rintro e w6 ⟨rfl, hb6⟩
    have HB6 := hidp (HB5.out.trans (hb6.mono HB5.out.size)); have HA6 := hidp (HA5.out.below hb6 HA5.out.lt)
    clear hb6
    go_wp2_with (first | (refine wpL_new rfl rfl ?_; intro b11 w7 n7) | (refine wpL_put rfl (.tmp 11) (.tmp 32) rfl b11 rc rfl rfl hrl.out (u8s z32) rfl n7.arr ?_; intro w8 ha8 hp8))
    have hn := n7.at_
    have h411 := hidp (show b4 < b11 from by have := HA6.out.lt; omega)
    have h11w := hidp (show w.heap.size ≤ b11 from by have := HB6.out.size; omega)
    have hs8 := (n7.put hp8).size
    have HB8 := hidp (HB6.out.trans ((n7.put hp8).mono HB6.out.size)); have HA8 := hidp (hp8.old (n7.old HA6.out) h411.out); have HR8 := hidp ha8
    clear hn ha8 hp8 n7 hs8
    go_loopw [13, 14] (fun t13 t14 wr => ∃ (k : Nat) (r : ByteArray), t13 = .string r ∧ r.data.toList = X.drop (32 * k) ∧ k ≤ n ∧ OwnH wr (b11 + 1) t14 (L.take k) ∧ Arr wr b4 25 (u8s root) ∧ Arr wr b11 25 (u8s rc) ∧ Below w.heap.size w wr) (fun t13 _ _ => strSize t13)
    case atStart => exact ⟨0, G2, rfl, by rw [HD2.out]; rfl, by omega, by simpa using OwnH.nil _ _, HA8.out, HR8.out, HB8.out⟩
    case round =>
      obtain ⟨k, r, rfl, hrd, hk, ho, ha, hb, hw⟩ := hrel
      have HO := hidp ho; have HA := hidp ha; have HR := hidp hb; have HB := hidp hw
      clear ho ha hb hw HB8 HA8 HR8 HB6 HA6 HB5 HA5
      have hrs : r.size = 32 * (n - k) := by rw [← size_toList, hrd, List.length_drop, HXL.out]; omega
      have HRD := hidp hrd
      clear hrd
      by_cases hlt : k < n
      · have e0 : decide ((r.size : Int) > 0) = true := by simp; omega
        have n0 : 0 < r.size := by omega
        have q3 : 32 ≤ r.size := by omega
        have q4 : (32 : Int) ≤ (r.size : Int) := by omega
        have HRS := hidp hrs
        clear hrs
        have hkl : k < L.length := by rw [HLL.out]; exact hlt
        obtain ⟨x, hx⟩ : ∃ x, L[k]'hkl = x := ⟨_, rfl⟩
        have hxl := hidp (show x.length = 32 from by rw [← hx]; exact hL32.out _ (List.getElem_mem _))
        have htk := hidp (show L.take k ++ [x] = L.take (k + 1) from by rw [← hx, List.take_succ_eq_append_getElem hkl])
        obtain ⟨R1, hR1⟩ : ∃ G, r.extract 0 32 = G := ⟨_, rfl⟩
        have hr1 := hidp (show R1.data.toList = x from by rw [← hR1, ex_list, ← hx, HLg.out k hkl, HRD.out]; rfl)
        have hR1s : R1.size = 32 := by rw [← size_toList, hr1.out]; exact hxl.out
        have HI1 := hidp (show (Tryd.prog.info? 5).map (·.size) = some 1 from by kernel_rfl)
        go_wp2_with (refine wpL_new rfl rfl ?_; intro b15 w7 n7)
        have hb15 := hidp (show b11 + 1 ≤ b15 from by have := n7.at_; have := HR.out.lt; omega)
        have hb7 := n7.below
        have hr15 := hidp (show wr.heap.size ≤ b15 from n7.le); have HW7 := hidp hb7; have HA7 := hidp (HA.out.below hb7 HA.out.lt); have HR7 := hidp (HR.out.below hb7 HR.out.lt); have HB7 := hidp (HB.out.trans (hb7.mono HB.out.size)); have HN7 := hidp n7.arr
        clear n7 hb7 HA HR HB
        obtain ⟨U, hU⟩ : ∃ U, ({ w7 with drawn := w7.drawn + 1 } : World) = U := ⟨_, rfl⟩
        have bU : Below w7.heap.size w7 U := by rw [← hU]; exact (Below.refl _ _).drew
        have HWU := hidp (HW7.out.trans (bU.mono HW7.out.size)); have HA8 := hidp (HA7.out.below bU HA7.out.lt); have HR8 := hidp (HR7.out.below bU HR7.out.lt); have HB8 := hidp (HB7.out.trans (bU.mono HB7.out.size)); have HN8 := hidp (HN7.out.below bU HN7.out.lt)
        clear bU HW7 HA7 HR7 HB7 HN7
        have hcy := run_copy_mid (P := Tryd.prog) U 54 9 3 5 b15 0 32 32 R1 _ 25 Tryd.underlying54 HI1.out HN8.out (by omega) (by simp [u8s_length, z32_len])
        have hce : ((u8s z32).toArray.toList.take 0 ++ Lib.byteCells (R1.data.toList.take 32) ++ (u8s z32).toArray.toList.drop (0 + 32)) = u8s x := by
          simp only [List.take_zero, List.nil_append]
          rw [hr1.out, List.take_of_length_le (l := x) (by rw [hxl.out]; exact Nat.le_refl _), List.drop_eq_nil_of_le (by simp [u8s_length, z32_len]), List.append_nil]; rfl
        rw [hce] at hcy
        have hA9 := hidp (Arr.row HN8.out (u8s x))
        have hS9 := hidp (Stp.setRow U b15 (u8s x).toArray)
        generalize hW9 : U.setRow b15 (u8s x).toArray = W9 at hcy hA9 hS9
        refine wp_region_noPanic ?_
        refine wp_region_scr (S := fun _ => True) (.take 0 (.take 1 (.take 2 (.one 3 .done)))) (by kernel_rfl) (by kernel_rfl) (fun _ _ _ _ _ h => h) (by simp [Scr.depth]) (by kernel_rfl) trivial ?_
        simp only [hU]
        clear hU
        refine s_slc rfl rfl (.tmp 15) rfl b15 0 rfl ?_
        simp only [Act.put, List.getElem_toArray, List.getElem_cons_zero, List.getElem_cons_succ, List.setIfInBounds_toArray, List.set_cons_zero, List.set_cons_succ]
        apply s_val
        case ho => rfl
        case hw => rfl
        case hv => intro w hw; go_simp; first | done | with_reducible rfl | rfl
        simp only [Act.put, List.getElem_toArray, List.getElem_cons_zero, List.getElem_cons_succ, List.setIfInBounds_toArray, List.set_cons_zero, List.set_cons_succ]
        apply s_val
        case ho => rfl
        case hw => rfl
        case hv => intro w hw; go_simp; first | done | with_reducible rfl | rfl
        simp only [Act.put, List.getElem_toArray, List.getElem_cons_zero, List.getElem_cons_succ, List.setIfInBounds_toArray, List.set_cons_zero, List.set_cons_succ]
        refine o_copy rfl rfl (.tmp 39) (.tmp 41) 54 9 rfl _ _ _ W9 rfl rfl hcy trivial ?_
        simp only [Act.put, List.getElem_toArray, List.getElem_cons_zero, List.getElem_cons_succ, List.setIfInBounds_toArray, List.set_cons_zero, List.set_cons_succ]
        refine NoPanic.normal ?_
        have HB9 := hidp (hS9.out.below' HB8.out (by have := hb15.out; have := h11w.out; omega)); have HA9 := hidp (hS9.out.old HA8.out (by have := hb15.out; have := h411.out; omega)); have HR9 := hidp (hS9.out.old HR8.out (by have := hb15.out; omega))
        have HO9 := hidp (HO.out.to (hS9.out.below' (HWU.out) hr15.out) (Nat.le_refl _))
        clear hW9 hcy hce HO HB8 HA8 HR8 HN8
        have hs9 := hS9.out.sz
        go_wp2_with (first
          | (refine wpL_get rfl (.tmp 15) rfl b15 x rfl hxl.out hA9.out ?_)
          | (refine wpL_bs1 rfl (.tmp 44) rfl x rfl hxl.out ?_; intro g1 w10 n10)
          | (refine wpL_app rfl (.tmp 43) (.tmp 45) rfl (b11 + 1) g1 _ (L.take k) x rfl rfl (HO9.out.to n10.below (Nat.le_refl _)) n10.arr hxl.out (by have := HR9.out.lt; have := n10.size; have := n10.at_; omega) (by rw [List.length_take]; omega) ?_; intro v' w11 ho11 hb11))
        have hs10 := n10.below.size
        have h119 := hidp (show b11 + 1 ≤ W9.heap.size from HR9.out.lt)
        have HA10 := HA9.out.below n10.below HA9.out.lt; have HR10 := HR9.out.below n10.below HR9.out.lt
        have HB10 := HB9.out.trans (n10.below.mono HB9.out.size)
        have h4 := h411.out; have h11 := h11w.out
        refine ⟨⟨k + 1, r.extract 32 r.size, rfl, ?_, by omega, by rw [← htk.out]; exact ho11, HA10.below hb11 (by omega), HR10.below hb11 (by omega), HB10.trans (hb11.mono (by omega))⟩, ?_⟩
        · rw [ex_list, HRD.out, List.drop_drop, List.take_of_length_le (by rw [List.length_drop, HXL.out, HRS.out]; omega)]
          congr 1
        · simp only [strSize]
          rw [ByteArray.size_extract]; omega
      · have e0 : decide ((r.size : Int) > 0) = false := decide_eq_false (by omega)
        have n0 : ¬ 0 < r.size := by omega
        have hkn : k = n := by omega
        have ho := HO.out
        rw [hkn, List.take_of_length_le (by rw [HLL.out]; exact Nat.le_refl _)] at ho
        have HO2 := hidp ho
        clear ho HO hrs
        go_wp2_with (refine wpL_get rfl (.tmp 11) rfl b11 rc rfl hrl.out HR.out ?_)
        refine (c4.out _ _ HO2.out.hs).mono ?_
        rintro e w9 ⟨rfl, hb9⟩
        have HB9 := hidp (HB.out.trans (hb9.mono HB.out.size)); have HA9 := hidp (HA.out.below hb9 HA.out.lt)
        clear hb9
        by_cases he : fd = root
        · have e2 : (!decide (fd = root)) = false := by simp [he]
          have HE := hidp he; clear he
          go_wp2_with (first | (refine wpL_new rfl rfl ?_; intro b16 w16 n16) | (refine wpL_put rfl (.tmp 16) (.tmp 54) rfl b16 fd rfl rfl hfl.out (u8s z32) rfl n16.arr ?_; intro w17 ha17 hp17; have HAZ := hidp (hp17.old (n16.old HA9.out) (by have := n16.at_; have := HA9.out.lt; omega)); have HBZ := hidp (HB9.out.trans ((n16.put hp17).mono HB9.out.size))) | (refine wpL_get rfl (.tmp 16) rfl b16 fd rfl hfl.out ha17 ?_) | (refine wpL_get rfl (.tmp 4) rfl b4 root rfl hr HAZ.out ?_) | (refine wpL_neqg rfl (.tmp 56) (.tmp 57) _ rfl fd root rfl rfl hfl.out hr _ e2 ?_))
          go_ret
          exact ⟨by rw [HF.out, if_pos HE.out]; rfl, HBZ.out⟩
        · have e2 : (!decide (fd = root)) = true := by simp [he]
          have HE := hidp he; clear he
          go_wp2_with (first | (refine wpL_new rfl rfl ?_; intro b16 w16 n16) | (refine wpL_put rfl (.tmp 16) (.tmp 54) rfl b16 fd rfl rfl hfl.out (u8s z32) rfl n16.arr ?_; intro w17 ha17 hp17; have HAZ := hidp (hp17.old (n16.old HA9.out) (by have := n16.at_; have := HA9.out.lt; omega)); have HBZ := hidp (HB9.out.trans ((n16.put hp17).mono HB9.out.size))) | (refine wpL_get rfl (.tmp 16) rfl b16 fd rfl hfl.out ha17 ?_) | (refine wpL_get rfl (.tmp 4) rfl b4 root rfl hr HAZ.out ?_) | (refine wpL_neqg rfl (.tmp 56) (.tmp 57) _ rfl fd root rfl rfl hfl.out hr _ e2 ?_))
          go_ret
          exact ⟨by rw [HF.out, if_neg HE.out]; rfl, HBZ.out⟩
end Go.Proofs.YtbgooppmhgaicaaDoor
