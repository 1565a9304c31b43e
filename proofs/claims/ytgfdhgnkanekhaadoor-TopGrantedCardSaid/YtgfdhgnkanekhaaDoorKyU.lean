
/-
  key: the root that is not nought, what verifies, lives, KeyVerifies.
-/
import Derived.Test.YtgfdhgnkanekhaaDoorKyN0
import Derived.Test.YtgfdhgnkanekhaaDoorKyN1
import Derived.Test.YtgfdhgnkanekhaaDoorKyI

namespace Go.Proofs.YtgfdhgnkanekhaaDoor
set_option maxRecDepth 100000
set_option linter.unusedVariables false
set_option linter.unusedSimpArgs false
theorem root2 (a b : List UInt8) : rootV [a, b] = abvL a b := by
  have hf : fitN [a, b].length = true := show fitN 2 = true from by decide +kernel
  have hi : hiN [a, b].length = 0 + 1 := show hiN 2 = 1 from by decide +kernel
  unfold rootV
  rw [if_pos hf, hi, refR_succ]
  rw [show ([a, b] : List (List UInt8)).take (2 ^ 0) = [a] from rfl, show ([a, b] : List (List UInt8)).drop (2 ^ 0) = [b] from rfl, refR_zero, refR_zero]
theorem rootN : rootV (leafL [115] 1) = [1, 182, 6, 211, 135, 147, 53, 5, 245, 241, 205, 252, 197, 223, 231, 32, 130, 117, 182, 46, 173, 16, 191, 101, 209, 159, 7, 102, 245, 140, 192, 251] := by
  have e : leafL [115] 1 = [[133, 132, 226, 9, 67, 101, 124, 7, 112, 140, 113, 84, 118, 64, 209, 109, 80, 56, 159, 43, 199, 54, 251, 52, 131, 108, 173, 108, 134, 93, 87, 198], [116, 114, 126, 235, 204, 156, 53, 229, 79, 85, 47, 115, 7, 142, 228, 51, 173, 35, 236, 27, 117, 190, 31, 217, 22, 236, 238, 183, 255, 165, 187, 204]] := by
    unfold leafL
    rw [show List.range (2 ^ 1) = [0, 1] from rfl, List.map_cons, List.map_cons, List.map_nil, pubN0, pubN1]
  rw [e, root2, abvL_eq, shaF_eq]
  rw [show txtL [133, 132, 226, 9, 67, 101, 124, 7, 112, 140, 113, 84, 118, 64, 209, 109, 80, 56, 159, 43, 199, 54, 251, 52, 131, 108, 173, 108, 134, 93, 87, 198] [116, 114, 126, 235, 204, 156, 53, 229, 79, 85, 47, 115, 7, 142, 228, 51, 173, 35, 236, 27, 117, 190, 31, 217, 22, 236, 238, 183, 255, 165, 187, 204] = [1, 133, 132, 226, 9, 67, 101, 124, 7, 112, 140, 113, 84, 118, 64, 209, 109, 80, 56, 159, 43, 199, 54, 251, 52, 131, 108, 173, 108, 134, 93, 87, 198] ++ [116, 114, 126, 235, 204, 156, 53, 229, 79, 85, 47, 115, 7, 142, 228, 51, 173, 35, 236, 27, 117, 190, 31, 217, 22, 236, 238, 183, 255, 165, 187, 204] from by unfold txtL; rfl]
  decide +kernel
theorem root_not : rootV (leafL [115] 1) ≠ z32 := by
  rw [rootN]; decide
end Go.Proofs.YtgfdhgnkanekhaaDoor

namespace Go.Proofs.YtgfdhgnkanekhaaDoor
set_option maxRecDepth 100000
set_option linter.unusedVariables false
set_option linter.unusedSimpArgs false
open Go.RowKit

theorem flat_drop : ∀ (i : Nat) (p : List (List UInt8)), All32 p → (flat p).drop (32 * i) = flat (p.drop i)
  | 0, p, _ => rfl
  | i + 1, [], _ => by simp [flat]
  | i + 1, a :: p, h => by
    have ha : a.length = 32 := h a (by simp)
    have e : flat (a :: p) = a ++ flat p := rfl
    rw [e, show 32 * (i + 1) = a.length + 32 * i from by omega, List.drop_append, List.drop_eq_nil_of_le (by omega), List.nil_append, show a.length + 32 * i - a.length = 32 * i from by omega, flat_drop i p h.tail]
    rfl
theorem hashes_flat (p : List (List UInt8)) (h : All32 p) : hashesL (flat p) = p := by
  have hl : (hashesL (flat p)).length = p.length := by rw [hashesL_len, flat_len h]; omega
  refine List.ext_getElem hl fun i h1 h2 => ?_
  rw [hashesL_get, flat_drop i p h, List.drop_eq_getElem_cons h2]
  have e : flat (p[i] :: p.drop (i + 1)) = p[i] ++ flat (p.drop (i + 1)) := rfl
  have hx : (p[i]).length = 32 := h _ (List.getElem_mem _)
  rw [e, List.take_append_of_le_length (by omega), List.take_of_length_le (by omega)]
theorem sig_parts {S : ByteArray} {h m : Nat} (t : List UInt8) (hh : h ≤ 7) (hm : m < 2 ^ h) :
    (pathV (leafL S.data.toList h) m).length = h ∧ (mkS (sigL S.data.toList h m t)).size = 1089 + 32 * h ∧ plV h (mkS (sigL S.data.toList h m t)) = some m := by
  have hP := pow_le7 hh
  have ho := okP_leaf S.data.toList hh hm
  have hp : (pathV (leafL S.data.toList h) m).length = h := by
    unfold pathV; rw [if_pos ho, refP_len, leafL_len, hiN_pow]
  have hz : (mkS (sigL S.data.toList h m t)).size = 1089 + 32 * h := by
    rw [mkS_size]; unfold sigL sigH
    rw [List.length_append, List.length_cons, signL_len, flat_len (pathV_32 _ _ (leafL_32 _ _)), hp]
  refine ⟨hp, hz, ?_⟩
  have h0 : ((mkS (sigL S.data.toList h m t)).data.toList.getD 0 0).toNat = m := by
    rw [mkS_data]; unfold sigL sigH
    rw [List.cons_append, List.getD_cons_zero, u8n _ (by omega)]
  unfold plV
  rw [h0, Int.toNat_natCast]
  have hk : hiK (h : Int) = true := decide_eq_true ⟨by omega, by omega⟩
  rw [if_pos ⟨hk, by rw [hz]; omega, hm⟩]
theorem drop_1089 (A : List UInt8) (B : List UInt8) (h : A.length = 1089) : (A ++ B).drop 1089 = B := by
  rw [← h]; exact List.drop_left
theorem vf_key (SL A B T root : List UInt8) (i : Int) (h1 : (SL.drop 1).take 1088 = A) (h2 : SL.drop 1089 = B) :
    (if climbV (recV T ((SL.drop 1).take 1088)) i (hashesL (SL.drop 1089)) = root then (0 : Int) else 9) = if climbV (recV T A) i (hashesL B) = root then 0 else 9 := by rw [h1, h2]
theorem vf_sign {S : ByteArray} {h m : Nat} (t : ByteArray) (root : List UInt8) (hh : h ≤ 7) (hm : m < 2 ^ h) :
    vfE root h t (mkS (sigL S.data.toList h m t.data.toList)) = if rootV (leafL S.data.toList h) = root then 0 else 9 := by
  obtain ⟨hp, hz, hpl⟩ := sig_parts (S := S) t.data.toList hh hm
  unfold vfE
  rw [hpl]
  simp only [mkS_data]
  have e1 : (sigL S.data.toList h m t.data.toList).drop 1 = signL (seedL S.data.toList m) t.data.toList ++ flat (pathV (leafL S.data.toList h) m) := rfl
  have hs : (signL (seedL S.data.toList m) t.data.toList).length = 1088 := signL_len _ _
  have e2 : ((sigL S.data.toList h m t.data.toList).drop 1).take 1088 = signL (seedL S.data.toList m) t.data.toList := by
    rw [e1, List.take_append_of_le_length (by omega), List.take_of_length_le (by omega)]
  have e3 : (sigL S.data.toList h m t.data.toList).drop 1089 = flat (pathV (leafL S.data.toList h) m) := by
    unfold sigL sigH
    exact drop_1089 _ _ (by rw [List.length_cons, hs])
  refine (vf_key _ _ _ _ root (m : Int) e2 e3).trans ?_
  rw [hashes_flat _ (pathV_32 _ _ (leafL_32 _ _)), recV_yes _ _ hs, rec_sign]
  have ho := okP_leaf S.data.toList hh hm
  have hf : fitN (leafL S.data.toList h).length = true := by rw [leafL_len]; exact fit_pow h hh
  have e4 : climbV (pubL (seedL S.data.toList m)) (m : Int) (pathV (leafL S.data.toList h) m) = rootV (leafL S.data.toList h) := by
    unfold climbV
    rw [if_pos (by rw [hp]; exact okC_pow hh hm), Int.toNat_natCast]
    unfold pathV rootV
    rw [if_pos ho, if_pos hf, leafL_len, hiN_pow, Int.toNat_natCast, ← climb_path h (leafL S.data.toList h) m (leafL_len _ _) hm]
    congr 1
    rw [List.getD_eq_getElem?_getD, List.getElem?_eq_getElem (by rw [leafL_len]; exact hm), Option.getD_some, leafL_get _ _ _ hm]
  rw [e4]
end Go.Proofs.YtgfdhgnkanekhaaDoor

namespace Go.Proofs.YtgfdhgnkanekhaaDoor
set_option maxRecDepth 100000
set_option linter.unusedVariables false
set_option linter.unusedSimpArgs false
open Go.RowKit

set_option maxHeartbeats 16000000 in
theorem rverify_any (w : World) (root : List UInt8) (hr : root.length = 32) (H : Int) (t g : ByteArray) (ht : t.size ≤ 281474976710656 / 4) (hg : g.size ≤ 281474976710656) :
    Calls Tryd.prog 21 #[.agg (u8s root).toArray, .int .i64 H, .string t, .string g] w fun e w' => e = .returned (.int .i64 (vfE root H t g)) ∧ Below w.heap.size w w' := by
  have c1 := hidp (fun W => rplace_any W H g hg)
  cases hp : plV H g with
  | none =>
    have HF := hidp (show vfE root H t g = 2 from by unfold vfE; rw [hp])
    rw [hp] at c1
    unfold plT at c1
    clear hp
    go_enter Tryd.func21, Tryd.ntmps21
    go_wp2_with (refine wpL_box rfl _ rfl (u8s root) rfl ?_; intro b4 w4 n4)
    have hB4 := hidp n4.below
    have hA4 := hidp n4.arr
    have h4w := hidp n4.le
    clear n4
    refine (c1.out _).mono ?_
    rintro e w5 ⟨rfl, hb5⟩
    have HB5 := hidp (hB4.out.trans (hb5.mono hB4.out.size)); have HA5 := hidp (hA4.out.below hb5 hA4.out.lt)
    clear hb5 hB4 hA4
    go_wp2_with fail
    go_ret
    exact ⟨by rw [HF.out]; rfl, HB5.out⟩
  | some i =>
    obtain ⟨n, rfl, hn7, hgs, hin⟩ := plV_facts hp
    have hgl : g.data.toList.length = g.size := size_toList g
    obtain ⟨X, hX⟩ : ∃ X, g.data.toList.drop 1089 = X := ⟨_, rfl⟩
    have hXl : X.length = 32 * n := by rw [← hX, List.length_drop, hgl, hgs]; omega
    obtain ⟨L, hL⟩ : ∃ L, hashesL X = L := ⟨_, rfl⟩
    have hL32 := hidp (show All32 L from by rw [← hL]; exact hashesL_32 _)
    have hLl : L.length = n := by rw [← hL, hashesL_len, hXl]; omega
    have HLg := hidp (show ∀ i (hi : i < L.length), L[i]'hi = (X.drop (32 * i)).take 32 from fun i hi => by
      subst hL
      exact hashesL_get X i hi)
    obtain ⟨G1, hG1⟩ : ∃ G, g.extract 1 1089 = G := ⟨_, rfl⟩
    obtain ⟨G2, hG2⟩ : ∃ G, g.extract 1089 g.size = G := ⟨_, rfl⟩
    have d1 : G1.data.toList = (g.data.toList.drop 1).take 1088 := by rw [← hG1, ex_list]
    have d2 : G2.data.toList = X := by rw [← hG2, ex_list, hX, List.take_of_length_le (by rw [hXl, hgs]; omega)]
    have l1 : G1.data.toList.length = 1088 := by rw [d1, List.length_take, List.length_drop, hgl]; omega
    have s1 : G1.size = 1088 := by rw [← size_toList, l1]
    obtain ⟨rc, hrc⟩ : ∃ r, recV t.data.toList ((g.data.toList.drop 1).take 1088) = r := ⟨_, rfl⟩
    have hrl := hidp (show rc.length = 32 from by rw [← hrc, ← d1, recV_yes _ _ l1]; exact recL_len _ _)
    obtain ⟨fd, hfd⟩ : ∃ r, climbV rc i L = r := ⟨_, rfl⟩
    have hfl := hidp (show fd.length = 32 from by rw [← hfd]; exact climbV_len _ _ _ hrl.out)
    have HF := hidp (show vfE root n t g = if fd = root then 0 else 9 from by unfold vfE; rw [hp]; simp only; rw [hrc, hX, hL, hfd])
    have c2 := hidp (show ∀ W, Calls Tryd.prog 61 #[.string t, .string G1] W fun e w' => e = .returned (.tuple #[.agg (u8s rc).toArray, .int .i64 0]) ∧ Below W.heap.size W w' from fun W => by
      have := rrecover_any W t G1 ht (by omega)
      rw [recE_yes _ l1, d1, hrc] at this; exact this)
    have hP := pow_le7 hn7
    have hi128 : i < 128 := by omega
    have c4 := hidp (show ∀ W v, HsAt W v L → Calls Tryd.prog 62 #[.agg (u8s rc).toArray, .int .i64 (i : Int), v] W fun e w' => e = .returned (.tuple #[.agg (u8s fd).toArray, .int .i64 0]) ∧ Below W.heap.size W w' from fun W v hv => by
      have := rclimb_any W rc hrl.out i (by simp [Lit.wf, IntKind.min, IntKind.max, IntKind.signed, IntKind.bits]; omega) v L hv
      rw [hfd, show climbE L.length (i : Int) = 0 from if_pos (by rw [hLl]; exact okC_pow hn7 hin)] at this; exact this)
    rw [hp] at c1
    have q1 : 1089 ≤ g.size := by omega
    have q2 : (1089 : Int) ≤ (g.size : Int) := by omega
    unfold plT at c1
    have HLL := hidp hLl; have HXL := hidp hXl; have HD2 := hidp d2
    clear hp hL d1 d2 hX hgs hgl l1 hrc hfd hin hP hLl hXl
    go_enter Tryd.func21, Tryd.ntmps21
    go_wp2_with (refine wpL_box rfl _ rfl (u8s root) rfl ?_; intro b4 w4 n4)
    have hB4 := hidp n4.below
    have hA4 := hidp n4.arr
    have h4w := hidp n4.le
    clear n4
    refine (c1.out _).mono ?_
    rintro e w5 ⟨rfl, hb5⟩
    have HB5 := hidp (hB4.out.trans (hb5.mono hB4.out.size)); have HA5 := hidp (hA4.out.below hb5 hA4.out.lt)
    clear hb5 hB4 hA4
    go_wp2_with fail
    refine (c2.out _).mono ?_
    rintro e w6 ⟨rfl, hb6⟩
    have HB6 := hidp (HB5.out.trans (hb6.mono HB5.out.size)); have HA6 := hidp (HA5.out.below hb6 HA5.out.lt)
    clear hb6
    go_wp2_with (first | (refine wpL_new rfl rfl ?_; intro b11 w7 n7) | (refine wpL_put rfl (.tmp 11) (.tmp 32) rfl b11 rc rfl rfl hrl.out (u8s z32) rfl n7.arr ?_; intro w8 ha8 hp8))
    have hn := n7.at_
    have h411 := hidp (show b4 < b11 from by have := HA6.out.lt; omega)
    have h11w := hidp (show w.heap.size ≤ b11 from by have := HB6.out.size; omega)
    have hs8 := (n7.put hp8).size
    have HB8 := hidp (HB6.out.trans ((n7.put hp8).mono HB6.out.size)); have HA8 := hidp (hp8.old (n7.old HA6.out) h411.out); have HR8 := hidp ha8
    clear hn ha8 hp8 n7 hs8
    go_loopw [13, 14] (fun t13 t14 wr => ∃ (k : Nat) (r : ByteArray), t13 = .string r ∧ r.data.toList = X.drop (32 * k) ∧ k ≤ n ∧ OwnH wr (b11 + 1) t14 (L.take k) ∧ Arr wr b4 26 (u8s root) ∧ Arr wr b11 26 (u8s rc) ∧ Below w.heap.size w wr) (fun t13 _ _ => strSize t13)
    case atStart => exact ⟨0, G2, rfl, by rw [HD2.out]; rfl, by omega, by simpa using OwnH.nil _ _, HA8.out, HR8.out, HB8.out⟩
    case round =>
      obtain ⟨k, r, rfl, hrd, hk, ho, ha, hb, hw⟩ := hrel
      have HO := hidp ho; have HA := hidp ha; have HR := hidp hb; have HB := hidp hw
      clear ho ha hb hw HB8 HA8 HR8 HB6 HA6 HB5 HA5
      have hrs : r.size = 32 * (n - k) := by rw [← size_toList, hrd, List.length_drop, HXL.out]; omega
      have HRD := hidp hrd
      clear hrd
      by_cases hlt : k < n
      · have e0 : decide ((r.size : Int) > 0) = true := by simp; omega
        have n0 : 0 < r.size := by omega
        have q3 : 32 ≤ r.size := by omega
        have q4 : (32 : Int) ≤ (r.size : Int) := by omega
        have HRS := hidp hrs
        clear hrs
        have hkl : k < L.length := by rw [HLL.out]; exact hlt
        obtain ⟨x, hx⟩ : ∃ x, L[k]'hkl = x := ⟨_, rfl⟩
        have hxl := hidp (show x.length = 32 from by rw [← hx]; exact hL32.out _ (List.getElem_mem _))
        have htk := hidp (show L.take k ++ [x] = L.take (k + 1) from by rw [← hx, List.take_succ_eq_append_getElem hkl])
        obtain ⟨R1, hR1⟩ : ∃ G, r.extract 0 32 = G := ⟨_, rfl⟩
        have hr1 := hidp (show R1.data.toList = x from by rw [← hR1, ex_list, ← hx, HLg.out k hkl, HRD.out]; rfl)
        have hR1s : R1.size = 32 := by rw [← size_toList, hr1.out]; exact hxl.out
        have HI1 := hidp (show (Tryd.prog.info? 5).map (·.size) = some 1 from by kernel_rfl)
        go_wp2_with (refine wpL_new rfl rfl ?_; intro b15 w7 n7)
        have hb15 := hidp (show b11 + 1 ≤ b15 from by have := n7.at_; have := HR.out.lt; omega)
        have hb7 := n7.below
        have hr15 := hidp (show wr.heap.size ≤ b15 from n7.le); have HW7 := hidp hb7; have HA7 := hidp (HA.out.below hb7 HA.out.lt); have HR7 := hidp (HR.out.below hb7 HR.out.lt); have HB7 := hidp (HB.out.trans (hb7.mono HB.out.size)); have HN7 := hidp n7.arr
        clear n7 hb7 HA HR HB
        obtain ⟨U, hU⟩ : ∃ U, ({ w7 with drawn := w7.drawn + 1 } : World) = U := ⟨_, rfl⟩
        have bU : Below w7.heap.size w7 U := by rw [← hU]; exact (Below.refl _ _).drew
        have HWU := hidp (HW7.out.trans (bU.mono HW7.out.size)); have HA8 := hidp (HA7.out.below bU HA7.out.lt); have HR8 := hidp (HR7.out.below bU HR7.out.lt); have HB8 := hidp (HB7.out.trans (bU.mono HB7.out.size)); have HN8 := hidp (HN7.out.below bU HN7.out.lt)
        clear bU HW7 HA7 HR7 HB7 HN7
        have hcy := run_copy_mid (P := Tryd.prog) U 76 9 3 5 b15 0 32 32 R1 _ 26 Tryd.underlying76 HI1.out HN8.out (by omega) (by simp [u8s_length, z32_len])
        have hce : ((u8s z32).toArray.toList.take 0 ++ Lib.byteCells (R1.data.toList.take 32) ++ (u8s z32).toArray.toList.drop (0 + 32)) = u8s x := by
          simp only [List.take_zero, List.nil_append]
          rw [hr1.out, List.take_of_length_le (l := x) (by rw [hxl.out]; exact Nat.le_refl _), List.drop_eq_nil_of_le (by simp [u8s_length, z32_len]), List.append_nil]; rfl
        rw [hce] at hcy
        have hA9 := hidp (Arr.row HN8.out (u8s x))
        have hS9 := hidp (Stp.setRow U b15 (u8s x).toArray)
        generalize hW9 : U.setRow b15 (u8s x).toArray = W9 at hcy hA9 hS9
        refine wp_region_noPanic ?_
        refine wp_region_scr (S := fun _ => True) (.take 0 (.take 1 (.take 2 (.one 3 .done)))) (by kernel_rfl) (by kernel_rfl) (fun _ _ _ _ _ h => h) (by simp [Scr.depth]) (by kernel_rfl) trivial ?_
        simp only [hU]
        clear hU
        refine s_slc rfl rfl (.tmp 15) rfl b15 0 rfl ?_
        simp only [Act.put, List.getElem_toArray, List.getElem_cons_zero, List.getElem_cons_succ, List.setIfInBounds_toArray, List.set_cons_zero, List.set_cons_succ]
        apply s_val
        case ho => rfl
        case hw => rfl
        case hv => intro w hw; go_simp; first | done | with_reducible rfl | rfl
        simp only [Act.put, List.getElem_toArray, List.getElem_cons_zero, List.getElem_cons_succ, List.setIfInBounds_toArray, List.set_cons_zero, List.set_cons_succ]
        apply s_val
        case ho => rfl
        case hw => rfl
        case hv => intro w hw; go_simp; first | done | with_reducible rfl | rfl
        simp only [Act.put, List.getElem_toArray, List.getElem_cons_zero, List.getElem_cons_succ, List.setIfInBounds_toArray, List.set_cons_zero, List.set_cons_succ]
        refine o_copy rfl rfl (.tmp 39) (.tmp 41) 76 9 rfl _ _ _ W9 rfl rfl hcy trivial ?_
        simp only [Act.put, List.getElem_toArray, List.getElem_cons_zero, List.getElem_cons_succ, List.setIfInBounds_toArray, List.set_cons_zero, List.set_cons_succ]
        refine NoPanic.normal ?_
        have HB9 := hidp (hS9.out.below' HB8.out (by have := hb15.out; have := h11w.out; omega)); have HA9 := hidp (hS9.out.old HA8.out (by have := hb15.out; have := h411.out; omega)); have HR9 := hidp (hS9.out.old HR8.out (by have := hb15.out; omega))
        have HO9 := hidp (HO.out.to (hS9.out.below' (HWU.out) hr15.out) (Nat.le_refl _))
        clear hW9 hcy hce HO HB8 HA8 HR8 HN8
        have hs9 := hS9.out.sz
        go_wp2_with (first
          | (refine wpL_get rfl (.tmp 15) rfl b15 x rfl hxl.out hA9.out ?_)
          | (refine wpL_bs1 rfl (.tmp 44) rfl x rfl hxl.out ?_; intro g1 w10 n10)
          | (refine wpL_app rfl (.tmp 43) (.tmp 45) rfl (b11 + 1) g1 _ (L.take k) x rfl rfl (HO9.out.to n10.below (Nat.le_refl _)) n10.arr hxl.out (by have := HR9.out.lt; have := n10.size; have := n10.at_; omega) (by rw [List.length_take]; omega) ?_; intro v' w11 ho11 hb11))
        have hs10 := n10.below.size
        have h119 := hidp (show b11 + 1 ≤ W9.heap.size from HR9.out.lt)
        have HA10 := HA9.out.below n10.below HA9.out.lt; have HR10 := HR9.out.below n10.below HR9.out.lt
        have HB10 := HB9.out.trans (n10.below.mono HB9.out.size)
        have h4 := h411.out; have h11 := h11w.out
        refine ⟨⟨k + 1, r.extract 32 r.size, rfl, ?_, by omega, by rw [← htk.out]; exact ho11, HA10.below hb11 (by omega), HR10.below hb11 (by omega), HB10.trans (hb11.mono (by omega))⟩, ?_⟩
        · rw [ex_list, HRD.out, List.drop_drop, List.take_of_length_le (by rw [List.length_drop, HXL.out, HRS.out]; omega)]
          congr 1
        · simp only [strSize]
          rw [ByteArray.size_extract]; omega
      · have e0 : decide ((r.size : Int) > 0) = false := decide_eq_false (by omega)
        have n0 : ¬ 0 < r.size := by omega
        have hkn : k = n := by omega
        have ho := HO.out
        rw [hkn, List.take_of_length_le (by rw [HLL.out]; exact Nat.le_refl _)] at ho
        have HO2 := hidp ho
        clear ho HO hrs
        go_wp2_with (refine wpL_get rfl (.tmp 11) rfl b11 rc rfl hrl.out HR.out ?_)
        refine (c4.out _ _ HO2.out.hs).mono ?_
        rintro e w9 ⟨rfl, hb9⟩
        have HB9 := hidp (HB.out.trans (hb9.mono HB.out.size)); have HA9 := hidp (HA.out.below hb9 HA.out.lt)
        clear hb9
        by_cases he : fd = root
        · have e2 : (!decide (fd = root)) = false := by simp [he]
          have HE := hidp he; clear he
          go_wp2_with (first | (refine wpL_new rfl rfl ?_; intro b16 w16 n16) | (refine wpL_put rfl (.tmp 16) (.tmp 54) rfl b16 fd rfl rfl hfl.out (u8s z32) rfl n16.arr ?_; intro w17 ha17 hp17; have HAZ := hidp (hp17.old (n16.old HA9.out) (by have := n16.at_; have := HA9.out.lt; omega)); have HBZ := hidp (HB9.out.trans ((n16.put hp17).mono HB9.out.size))) | (refine wpL_get rfl (.tmp 16) rfl b16 fd rfl hfl.out ha17 ?_) | (refine wpL_get rfl (.tmp 4) rfl b4 root rfl hr HAZ.out ?_) | (refine wpL_neqg rfl (.tmp 56) (.tmp 57) _ rfl fd root rfl rfl hfl.out hr _ e2 ?_))
          go_ret
          exact ⟨by rw [HF.out, if_pos HE.out]; rfl, HBZ.out⟩
        · have e2 : (!decide (fd = root)) = true := by simp [he]
          have HE := hidp he; clear he
          go_wp2_with (first | (refine wpL_new rfl rfl ?_; intro b16 w16 n16) | (refine wpL_put rfl (.tmp 16) (.tmp 54) rfl b16 fd rfl rfl hfl.out (u8s z32) rfl n16.arr ?_; intro w17 ha17 hp17; have HAZ := hidp (hp17.old (n16.old HA9.out) (by have := n16.at_; have := HA9.out.lt; omega)); have HBZ := hidp (HB9.out.trans ((n16.put hp17).mono HB9.out.size))) | (refine wpL_get rfl (.tmp 16) rfl b16 fd rfl hfl.out ha17 ?_) | (refine wpL_get rfl (.tmp 4) rfl b4 root rfl hr HAZ.out ?_) | (refine wpL_neqg rfl (.tmp 56) (.tmp 57) _ rfl fd root rfl rfl hfl.out hr _ e2 ?_))
          go_ret
          exact ⟨by rw [HF.out, if_neg HE.out]; rfl, HBZ.out⟩
end Go.Proofs.YtgfdhgnkanekhaaDoor

namespace Go.Proofs.YtgfdhgnkanekhaaDoor
set_option maxRecDepth 100000
set_option linter.unusedVariables false
set_option linter.unusedSimpArgs false
open Go.RowKit

def S0 : ByteArray := ⟨#[115]⟩
theorem S0_list : S0.data.toList = [115] := rfl
theorem ok11 : kyOk S0 1 1 = true := by decide +kernel
theorem ok12 : kyOk S0 1 2 = true := by decide +kernel
theorem eqin_key (W : World) (s : ByteArray) (a b : Int) :
    (Op.equalIn 10000 23 (.agg #[.string s, .int .i64 a, .int .i64 b]) (.agg #[.string s, .int .i64 a, .int .i64 b])).run Tryd.prog W = .ok true W := by
  have ht : Tryd.prog.underlying 23 = some (.struct (Tryd.prog.fieldsOf 23)) := by kernel_rfl
  have hp : Tryd.prog.stoodInHeld 23 = false := by kernel_rfl
  have hu := Tryd.underlying23
  have hus := Tryd.underlying9
  have hui := Tryd.underlying3
  rw [run_equalIn_agg W 9999 _ _ _ ht hp]
  unfold Program.fieldsOf
  rw [hu]
  go_simp
theorem eq_key (W : World) (s : ByteArray) (a b : Int) :
    (binOp .eql 23 (.agg #[.string s, .int .i64 a, .int .i64 b]) (.agg #[.string s, .int .i64 a, .int .i64 b])).run Tryd.prog W = .ok (.bool true) W := by
  rw [run_eql_struct, eqin_key]; rfl
theorem wpL_zerog {ops : Array Oper} {rest : List Oper} {o : Oper} {a : Act} {w : World} {Q : Exit → Act → World → Prop} (hw : Region.wanted o (yielded ops a.tmps) = true) (ho : o.op = .build 26 #[])
    (h : wpList Tryd.prog ops Q rest (a.put o.dst (.agg (u8s z32).toArray)) w) : wpList Tryd.prog ops Q (o :: rest) a w :=
  wpL_valg hw _ (by
    unfold execOp
    simp only [ho, List.map_toArray, List.map_nil, Array.map_empty, Sem.run_bind, build_hash, Result.andThen_ok, Sem.run_pure]) h

set_option maxHeartbeats 16000000 in
theorem lives5_any (w : World) (hK : KT w) : Calls Tryd.prog 11 #[] w fun e w' => e = .returned (.bool true) ∧ Below w.heap.size w w' := by
  have HK := hidp hK; have hkp := hK.pos; clear hK
  obtain ⟨R, hR⟩ : ∃ R, rootV (leafL [115] 1) = R := ⟨_, rfl⟩
  have hRl := hidp (show R.length = 32 from by rw [← hR]; exact rootV_len _ (leafL_32 _ _))
  have hRz : ¬ R = z32 := by rw [← hR]; exact root_not
  have hp : (1 : Nat) < 2 ^ 1 := by decide
  obtain ⟨-, hz, hpl⟩ := sig_parts (S := S0) (h := 1) (m := 1) [97, 98, 99] (by omega) hp
  have hv := fun root => vf_sign (S := S0) (h := 1) (m := 1) ⟨#[97, 98, 99]⟩ root (by omega) hp
  rw [S0_list] at hz hpl
  simp only [S0_list, hR] at hv
  obtain ⟨g1, g2, g3⟩ := sg_yes (S := S0) (H := 1) (N := 1) [97, 98, 99] ok11 (by decide)
  rw [S0_list] at g2
  obtain ⟨G, hG⟩ : ∃ G, mkS (sigL [115] 1 1 [97, 98, 99]) = G := ⟨_, rfl⟩
  have g2' : sgS S0 1 1 [97, 98, 99] = G := g2.trans hG
  obtain ⟨k1, k2, k3⟩ := sg_over (S := S0) (H := 1) (N := 2) [97, 98, 99] ok12 (by decide)
  rw [hG] at hz hpl
  have hv' : ∀ root, vfE root 1 ⟨#[97, 98, 99]⟩ G = if R = root then 0 else 9 := fun root => by rw [← hG]; exact hv root
  have hGs : G.size = 1121 := hz
  have c0 := hidp (show ∀ W, KT W → Calls Tryd.prog 12 #[.agg #[.string ⟨#[115]⟩, .int .i64 1, .int .i64 1]] W fun e w' => e = .returned (.tuple #[.agg (u8s R).toArray, .int .i64 0]) ∧ Below W.heap.size W w' from fun W k => by
    have := kroot_any W S0 1 1 k
    rw [show keyR S0 1 1 = R from by unfold keyR; rw [if_pos ok11, S0_list]; exact hR, show kyE S0 1 1 = 0 from if_pos ok11] at this; exact this)
  have c1 := hidp (show ∀ W, KT W → Calls Tryd.prog 14 #[.agg #[.string ⟨#[115]⟩, .int .i64 1, .int .i64 1], .string ⟨#[97, 98, 99]⟩] W fun e w' => e = .returned (.tuple #[.agg #[.string ⟨#[115]⟩, .int .i64 1, .int .i64 2], .string G, .int .i64 0]) ∧ Below W.heap.size W w' from fun W k => by
    have := ksign_any W S0 1 1 ⟨#[97, 98, 99]⟩ (by decide) k
    rw [show (ByteArray.mk #[97, 98, 99]).data.toList = [97, 98, 99] from rfl, g1, g2', g3] at this; exact this)
  have c2 := hidp (show ∀ W, KT W → Calls Tryd.prog 14 #[.agg #[.string ⟨#[115]⟩, .int .i64 1, .int .i64 2], .string ⟨#[97, 98, 99]⟩] W fun e w' => e = .returned (.tuple #[.agg #[.string ⟨#[115]⟩, .int .i64 1, .int .i64 2], .string ⟨#[]⟩, .int .i64 10]) ∧ Below W.heap.size W w' from fun W k => by
    have := ksign_any W S0 1 2 ⟨#[97, 98, 99]⟩ (by decide) k
    rw [show (ByteArray.mk #[97, 98, 99]).data.toList = [97, 98, 99] from rfl, k1, k2, k3] at this; exact this)
  have c3 := hidp (show ∀ W, Calls Tryd.prog 18 #[.int .i64 1, .string G] W fun e w' => e = .returned (.tuple #[.int .i64 1, .int .i64 0]) ∧ Below W.heap.size W w' from fun W => by
    have := place_any W 1 G (by omega)
    rw [show plV 1 G = some 1 from hpl] at this; exact this)
  have c4 := hidp (show ∀ W, Calls Tryd.prog 18 #[.int .i64 0, .string G] W fun e w' => e = .returned (.tuple #[.int .i64 0, .int .i64 2]) ∧ Below W.heap.size W w' from fun W => by
    have := place_any W 0 G (by omega)
    rw [show plV 0 G = none from by unfold plV; rw [if_neg (by rw [hGs]; rintro ⟨-, h, -⟩; omega)]] at this; exact this)
  have c5 := hidp (show ∀ W, KT W → Calls Tryd.prog 20 #[.agg (u8s R).toArray, .int .i64 1, .string ⟨#[97, 98, 99]⟩, .string G] W fun e w' => e = .returned (.int .i64 0) ∧ Below W.heap.size W w' from fun W k => by
    have := verify_any W R hRl.out 1 ⟨#[97, 98, 99]⟩ G (by decide) (by omega) k
    rw [hv' R, if_pos rfl] at this; exact this)
  have c6 := hidp (show ∀ W, KT W → Calls Tryd.prog 20 #[.agg (u8s z32).toArray, .int .i64 1, .string ⟨#[97, 98, 99]⟩, .string G] W fun e w' => e = .returned (.int .i64 9) ∧ Below W.heap.size W w' from fun W k => by
    have := verify_any W z32 rfl 1 ⟨#[97, 98, 99]⟩ G (by decide) (by omega) k
    rw [hv' z32, if_neg hRz] at this; exact this)
  have c7 := hidp (show ∀ W, Calls Tryd.prog 16 #[.agg #[.string ⟨#[]⟩, .int .i64 0, .int .i64 0]] W fun e w' => e = .returned (.int .i64 2) ∧ Below W.heap.size W w' from fun W => by
    have := kyCheck_any W ⟨#[]⟩ 0 0
    rw [show kyE ⟨#[]⟩ 0 0 = 2 from by decide +kernel] at this; exact this)
  clear hR hRz hp hz hpl hv g1 g2 g3 hG g2' k1 k2 k3 hv'
  have HX := hidp ((Below.refl w.heap.size w).alloc (Nat.le_refl _) (.cells #[.string ⟨#[115]⟩, .int .i64 1, .int .i64 1] 23)); have HA := hidp (Arr.new w 23 [.string ⟨#[115]⟩, .int .i64 1, .int .i64 1])
  go_enter Tryd.func11, Tryd.ntmps11
  go_wp2_with fail
  obtain ⟨b1, hb1⟩ : ∃ b, w.heap.size = b := ⟨_, rfl⟩
  generalize hW0 : (w.alloc (.cells #[.string ⟨#[115]⟩, .int .i64 1, .int .i64 1] 23)) = w0 at HX HA ⊢
  rw [hb1] at HA ⊢
  rw [← hb1]
  have HB0 := HX; have HA0 := HA
  clear hW0 HX HA
  refine (c0.out _ (HK.out.below HB0.out hkp)).mono ?_
  rintro e w1 ⟨rfl, hb1⟩
  have HB1 := hidp (HB0.out.trans (hb1.mono HB0.out.size))
  have HA1 := hidp (HA0.out.below hb1 HA0.out.lt)
  clear hb1 HB0 HA0
  go_wp2_with (first | (refine wpL_new rfl rfl ?_; intro b2 w2 n2) | (refine wpL_put rfl (.tmp 2) (.tmp 18) rfl b2 R rfl rfl hRl.out (u8s z32) rfl n2.arr ?_; intro w3 ha3 hp3; have HA3 := hidp (hp3.old (n2.old HA1.out) (by have := n2.at_; have := HA1.out.lt; omega)); have HR3 := hidp ha3; have HB3 := hidp (HB1.out.trans ((n2.put hp3).mono HB1.out.size)); clear ha3 hp3 n2; obtain ⟨x0, x1, x2, -⟩ := arr3k HA3.out))
  clear x0 x1 x2 HA1 HB1
  refine (c1.out _ (HK.out.below HB3.out hkp)).mono ?_
  rintro e w4 ⟨rfl, hb4⟩
  have HB4 := hidp (HB3.out.trans (hb4.mono HB3.out.size))
  have HA4 := hidp (HA3.out.below hb4 HA3.out.lt)
  have HR4 := hidp (HR3.out.below hb4 HR3.out.lt)
  clear hb4 HB3 HA3 HR3
  go_wp2_with fail
  have HB5 := hidp (HB4.out.alloc HB4.out.size (.cells #[.string ⟨#[115]⟩, .int .i64 1, .int .i64 2] 23)); have HN5 := hidp (Arr.new w4 23 [.string ⟨#[115]⟩, .int .i64 1, .int .i64 2]); have HA5 := hidp (HA4.out.alloc (.cells #[.string ⟨#[115]⟩, .int .i64 1, .int .i64 2] 23)); have HR5 := hidp (HR4.out.alloc (.cells #[.string ⟨#[115]⟩, .int .i64 1, .int .i64 2] 23))
  obtain ⟨b4, hbb4⟩ : ∃ b, w4.heap.size = b := ⟨_, rfl⟩
  generalize hW5 : (w4.alloc (.cells #[.string ⟨#[115]⟩, .int .i64 1, .int .i64 2] 23)) = w5 at HB5 HN5 HA5 HR5  ⊢
  rw [hbb4] at HN5 ⊢
  clear hW5 hbb4 HB4 HA4 HR4 
  refine (c2.out _ (HK.out.below HB5.out hkp)).mono ?_
  rintro e w6 ⟨rfl, hb6⟩
  have HB6 := hidp (HB5.out.trans (hb6.mono HB5.out.size))
  have HA6 := hidp (HA5.out.below hb6 HA5.out.lt)
  have HR6 := hidp (HR5.out.below hb6 HR5.out.lt)
  have HN6 := hidp (HN5.out.below hb6 HN5.out.lt)
  clear hb6 HB5 HA5 HR5 HN5
  go_wp2_with fail
  have HB7 := hidp (HB6.out.alloc HB6.out.size (.cells #[.string ⟨#[115]⟩, .int .i64 1, .int .i64 2] 23)); have HM7 := hidp (Arr.new w6 23 [.string ⟨#[115]⟩, .int .i64 1, .int .i64 2]); have HA7 := hidp (HA6.out.alloc (.cells #[.string ⟨#[115]⟩, .int .i64 1, .int .i64 2] 23)); have HN7 := hidp (HN6.out.alloc (.cells #[.string ⟨#[115]⟩, .int .i64 1, .int .i64 2] 23)); have HR7 := hidp (HR6.out.alloc (.cells #[.string ⟨#[115]⟩, .int .i64 1, .int .i64 2] 23))
  obtain ⟨b7, hbb7⟩ : ∃ b, w6.heap.size = b := ⟨_, rfl⟩
  generalize hW7 : (w6.alloc (.cells #[.string ⟨#[115]⟩, .int .i64 1, .int .i64 2] 23)) = w7 at HB7 HM7 HA7 HR7 HN7 ⊢
  rw [hbb7] at HM7 ⊢
  clear hW7 hbb7 HN6 HB6 HA6 HR6 
  refine (c3.out _).mono ?_
  rintro e w8 ⟨rfl, hb8⟩
  have HB8 := hidp (HB7.out.trans (hb8.mono HB7.out.size))
  have HA8 := hidp (HA7.out.below hb8 HA7.out.lt)
  have HR8 := hidp (HR7.out.below hb8 HR7.out.lt)
  have HN8 := hidp (HN7.out.below hb8 HN7.out.lt)
  clear hb8 HB7 HA7 HR7 HN7
  go_wp2_with fail
  refine (c4.out _).mono ?_
  rintro e w9 ⟨rfl, hb9⟩
  have HB9 := hidp (HB8.out.trans (hb9.mono HB8.out.size))
  have HA9 := hidp (HA8.out.below hb9 HA8.out.lt)
  have HR9 := hidp (HR8.out.below hb9 HR8.out.lt)
  have HN9 := hidp (HN8.out.below hb9 HN8.out.lt)
  clear hb9 HB8 HA8 HR8 HN8
  have q1 := fun W => eq_key W ⟨#[115]⟩ 1 2
  obtain ⟨x0, x1, x2, -⟩ := arr3k HN9.out
  go_wp2_with (refine wpL_getg rfl (.tmp 2) rfl b2 R rfl hRl.out HR9.out ?_)
  clear x0 x1 x2
  refine (c5.out _ (HK.out.below HB9.out hkp)).mono ?_
  rintro e w10 ⟨rfl, hb10⟩
  have HB10 := hidp (HB9.out.trans (hb10.mono HB9.out.size))
  have HN10 := hidp (HN9.out.below hb10 HN9.out.lt)
  clear hb10 HB9 HN9
  go_wp2_with (refine wpL_zerog rfl rfl ?_)
  refine (c6.out _ (HK.out.below HB10.out hkp)).mono ?_
  rintro e w11 ⟨rfl, hb11⟩
  have HB11 := hidp (HB10.out.trans (hb11.mono HB10.out.size))
  have HN11 := hidp (HN10.out.below hb11 HN10.out.lt)
  clear hb11 HB10 HN10
  go_wp2_with fail
  refine (c7.out _).mono ?_
  rintro e w12 ⟨rfl, hb12⟩
  have HB12 := hidp (HB11.out.trans (hb12.mono HB11.out.size))
  have HN12 := hidp (HN11.out.below hb12 HN11.out.lt)
  clear hb12 HB11 HN11
  go_wp2_with fail
  go_ret
  exact ⟨rfl, HB12.out⟩
end Go.Proofs.YtgfdhgnkanekhaaDoor

namespace Go.Proofs.YtgfdhgnkanekhaaDoor
set_option maxRecDepth 100000
set_option linter.unusedVariables false
set_option linter.unusedSimpArgs false
open Go.RowKit

theorem plT_form (o : Option Nat) : ∃ a b : Int, plT o = .tuple #[.int .i64 a, .int .i64 b] := by cases o with
  | none => exact ⟨_, _, rfl⟩
  | some n => exact ⟨_, _, rfl⟩
theorem sgA_form (S : ByteArray) (H N : Int) : ∃ (S' : ByteArray) (H' N' : Int), sgA S H N = [.string S', .int .i64 H', .int .i64 N'] := by
  unfold sgA; split
  · split
    · exact ⟨_, _, _, rfl⟩
    · exact ⟨_, _, _, rfl⟩
  · exact ⟨_, _, _, rfl⟩
theorem s_eqH {ops : Array Oper} {Q : Exit → Act → World → Prop} {S : World → Prop} {k : Nat} {o : Oper} {s : Scr} {a : Act} {w : World} (ho : ops[k]? = some o) (hw : Region.wanted o (yielded ops a.tmps) = true) (x y : Operand) (u : TypeId) (hop : o.op = .binOp .eql 26 x y u)
    (l : List UInt8) (hx : a.eval x = .agg (u8s l).toArray) (hy : a.eval y = .agg (u8s l).toArray) (hl : l.length = 32) (h : wpScr Tryd.prog ops Q s S (a.put o.dst (.bool true)) w) : wpScr Tryd.prog ops Q (.take k s) S a w :=
  s_val ho hw (fun w _ => by
    unfold execOp
    simp only [hop, hx, hy, Sem.run_bind, run_eqGuard_agg (P := Tryd.prog) _ _ _ _ _ _ _ guard_hash, eql_hash w l l hl hl, decide_true, Result.andThen_ok, Sem.run_pure]) h

set_option maxHeartbeats 16000000 in
theorem walk_keyVerifies (w : World) (root : List UInt8) (hr : root.length = 32) (n : Int) (hn : (Lit.int .i64 n).wf = true) (t : ByteArray) (ht : t.size ≤ 140737488351232) (g : ByteArray) (hg : g.size ≤ 140737488351232) (hK : KT w) :
    Calls Tryd.prog 4 #[.agg (u8s root).toArray, .int .i64 n, .string t, .string g] w fun e w' => e = .returned (.bool true) ∧ Below w.heap.size w w' := by
  have L := hidp (fun W (h : KT W) => lives5_any W h)
  have HK := hidp hK; have hkp := hK.pos; clear hK
  by_cases h16 : 16384 < t.size
  · have e1 : decide ((t.size : Int) > 16384) = true := by simp; omega
    go_enter Tryd.func4, Tryd.ntmps4
    go_wp2_with (refine wpL_box rfl _ rfl (u8s root) rfl ?_; intro b4 w0 n4; have HA0 := hidp n4.arr; have HB0 := hidp n4.below; clear n4)
    refine (L.out _ (HK.out.below HB0.out hkp)).mono ?_
    rintro e w1 ⟨rfl, hb1⟩
    go_wp2_with fail
    go_ret
    exact ⟨rfl, HB0.out.trans (hb1.mono HB0.out.size)⟩
  · have e1 : decide ((t.size : Int) > 16384) = false := by simp; omega
    obtain ⟨a, b, hab⟩ := plT_form (plV n g)
    have c1 := hidp (show ∀ W, Calls Tryd.prog 18 #[.int .i64 n, .string g] W fun e w' => e = .returned (.tuple #[.int .i64 a, .int .i64 b]) ∧ Below W.heap.size W w' from fun W => by rw [← hab]; exact place_any W n g (by omega))
    have c2 := hidp (show ∀ W, Calls Tryd.prog 19 #[.int .i64 n, .string g] W fun e w' => e = .returned (.tuple #[.int .i64 a, .int .i64 b]) ∧ Below W.heap.size W w' from fun W => by rw [← hab]; exact rplace_any W n g (by omega))
    obtain ⟨v, hv⟩ : ∃ v, vfE root n t g = v := ⟨_, rfl⟩
    have c3 := hidp (show ∀ W, KT W → Calls Tryd.prog 20 #[.agg (u8s root).toArray, .int .i64 n, .string t, .string g] W fun e w' => e = .returned (.int .i64 v) ∧ Below W.heap.size W w' from fun W k => by rw [← hv]; exact verify_any W root hr n t g (by omega) (by omega) k)
    have c4 := hidp (show ∀ W, Calls Tryd.prog 21 #[.agg (u8s root).toArray, .int .i64 n, .string t, .string g] W fun e w' => e = .returned (.int .i64 v) ∧ Below W.heap.size W w' from fun W => by rw [← hv]; exact rverify_any W root hr n t g (by omega) (by omega))
    clear hab hv
    go_enter Tryd.func4, Tryd.ntmps4
    go_wp2_with (refine wpL_box rfl _ rfl (u8s root) rfl ?_; intro b4 w0 n4; have HA0 := hidp n4.arr; have HB0 := hidp n4.below; clear n4)
    refine (c1.out _).mono ?_
    rintro e w1 ⟨rfl, hb1⟩
    have HA1 := hidp (HA0.out.below hb1 HA0.out.lt); have HB1 := hidp (HB0.out.trans (hb1.mono HB0.out.size))
    clear hb1 HA0 HB0
    go_wp2_with fail
    refine (c2.out _).mono ?_
    rintro e w2 ⟨rfl, hb2⟩
    have HA2 := hidp (HA1.out.below hb2 HA1.out.lt); have HB2 := hidp (HB1.out.trans (hb2.mono HB1.out.size))
    clear hb2 HA1 HB1
    go_wp2_with fail
    obtain ⟨U, hU⟩ : ∃ U, ({ w2 with drawn := w2.drawn + 1 } : World) = U := ⟨_, rfl⟩
    have bU : Below w2.heap.size w2 U := by rw [← hU]; exact (Below.refl _ _).drew
    have HA := hidp (HA2.out.below bU HA2.out.lt); have HB := hidp (HB2.out.trans (bU.mono HB2.out.size))
    clear bU HA2 HB2
    refine wp_region_noPanic ?_
    refine wp_region_scr (S := fun W => Arr W b4 26 (u8s root)) (.one 0 (.take 1 (.take 2 (.take 3 (.take 4 (.take 5 (.take 7 (.take 8 (.take 9 (.take 10 (.one 6 (.one 11 (.take 12 (.take 13 (.take 14 (.take 15 (.take 16 (.take 17 (.take 18 (.take 19 (.take 20 (.take 21 (.take 22 (.take 23 (.take 24 .done))))))))))))))))))))))))) (by kernel_rfl) (by kernel_rfl) (fun _ _ _ _ _ h => h) (by simp [Scr.depth]) (by kernel_rfl) (by rw [hU]; exact HA.out) ?_
    simp only [hU]
    clear hU
    apply o_call (f := 11) (args := #[]) (v := .bool true) (hc := L.out _ (HK.out.below HB.out hkp))
    case ho => rfl
    case hw => rfl
    case hop => go_simp; first | done | rfl
    rintro X3 hb
    have HA3 := hidp (HA.out.below hb HA.out.lt); have HB3 := hidp (HB.out.trans (hb.mono HB.out.size))
    clear hb
    refine ⟨HA3.out, ?_⟩
    simp only [Act.put, List.getElem_toArray, List.getElem_cons_zero, List.getElem_cons_succ, List.setIfInBounds_toArray, List.set_cons_zero, List.set_cons_succ]
    apply s_val
    case ho => rfl
    case hw => rfl
    case hv => intro w hw; go_simp; first | done | with_reducible rfl | rfl
    simp only [Act.put, List.getElem_toArray, List.getElem_cons_zero, List.getElem_cons_succ, List.setIfInBounds_toArray, List.set_cons_zero, List.set_cons_succ]
    refine s_getH rfl rfl (.tmp 4) rfl b4 root rfl hr (fun _ h => h) ?_
    simp only [Act.put, List.getElem_toArray, List.getElem_cons_zero, List.getElem_cons_succ, List.setIfInBounds_toArray, List.set_cons_zero, List.set_cons_succ]
    apply s_val
    case ho => rfl
    case hw => rfl
    case hv => intro w hw; go_simp; first | done | with_reducible rfl | rfl
    simp only [Act.put, List.getElem_toArray, List.getElem_cons_zero, List.getElem_cons_succ, List.setIfInBounds_toArray, List.set_cons_zero, List.set_cons_succ]
    apply s_val
    case ho => rfl
    case hw => rfl
    case hv => intro w hw; go_simp; first | done | with_reducible rfl | rfl
    simp only [Act.put, List.getElem_toArray, List.getElem_cons_zero, List.getElem_cons_succ, List.setIfInBounds_toArray, List.set_cons_zero, List.set_cons_succ]
    apply s_val
    case ho => rfl
    case hw => rfl
    case hv => intro w hw; go_simp; first | done | with_reducible rfl | rfl
    simp only [Act.put, List.getElem_toArray, List.getElem_cons_zero, List.getElem_cons_succ, List.setIfInBounds_toArray, List.set_cons_zero, List.set_cons_succ]
    refine s_getH rfl rfl (.tmp 4) rfl b4 root rfl hr (fun _ h => h) ?_
    simp only [Act.put, List.getElem_toArray, List.getElem_cons_zero, List.getElem_cons_succ, List.setIfInBounds_toArray, List.set_cons_zero, List.set_cons_succ]
    apply s_val
    case ho => rfl
    case hw => rfl
    case hv => intro w hw; go_simp; first | done | with_reducible rfl | rfl
    simp only [Act.put, List.getElem_toArray, List.getElem_cons_zero, List.getElem_cons_succ, List.setIfInBounds_toArray, List.set_cons_zero, List.set_cons_succ]
    apply s_val
    case ho => rfl
    case hw => rfl
    case hv => intro w hw; go_simp; first | done | with_reducible rfl | rfl
    simp only [Act.put, List.getElem_toArray, List.getElem_cons_zero, List.getElem_cons_succ, List.setIfInBounds_toArray, List.set_cons_zero, List.set_cons_succ]
    apply s_val
    case ho => rfl
    case hw => rfl
    case hv => intro w hw; go_simp; first | done | with_reducible rfl | rfl
    simp only [Act.put, List.getElem_toArray, List.getElem_cons_zero, List.getElem_cons_succ, List.setIfInBounds_toArray, List.set_cons_zero, List.set_cons_succ]
    apply o_call (f := 20) (args := #[.agg (u8s root).toArray, .int .i64 n, .string t, .string g]) (v := .int .i64 v) (hc := c3.out _ (HK.out.below HB3.out hkp))
    case ho => rfl
    case hw => rfl
    case hop => go_simp; first | done | rfl
    rintro X4 hb
    have HA4 := hidp (HA3.out.below hb HA3.out.lt); have HB4 := hidp (HB3.out.trans (hb.mono HB3.out.size))
    clear hb
    refine ⟨HA4.out, ?_⟩
    simp only [Act.put, List.getElem_toArray, List.getElem_cons_zero, List.getElem_cons_succ, List.setIfInBounds_toArray, List.set_cons_zero, List.set_cons_succ]
    apply o_call (f := 21) (args := #[.agg (u8s root).toArray, .int .i64 n, .string t, .string g]) (v := .int .i64 v) (hc := c4.out _)
    case ho => rfl
    case hw => rfl
    case hop => go_simp; first | done | rfl
    rintro X5 hb
    have HA5 := hidp (HA4.out.below hb HA4.out.lt); have HB5 := hidp (HB4.out.trans (hb.mono HB4.out.size))
    clear hb
    refine ⟨HA5.out, ?_⟩
    simp only [Act.put, List.getElem_toArray, List.getElem_cons_zero, List.getElem_cons_succ, List.setIfInBounds_toArray, List.set_cons_zero, List.set_cons_succ]
    apply s_val
    case ho => rfl
    case hw => rfl
    case hv => intro w hw; go_simp; first | done | with_reducible rfl | rfl
    simp only [Act.put, List.getElem_toArray, List.getElem_cons_zero, List.getElem_cons_succ, List.setIfInBounds_toArray, List.set_cons_zero, List.set_cons_succ]
    apply s_val
    case ho => rfl
    case hw => rfl
    case hv => intro w hw; go_simp; first | done | with_reducible rfl | rfl
    simp only [Act.put, List.getElem_toArray, List.getElem_cons_zero, List.getElem_cons_succ, List.setIfInBounds_toArray, List.set_cons_zero, List.set_cons_succ]
    apply s_val
    case ho => rfl
    case hw => rfl
    case hv => intro w hw; go_simp; first | done | with_reducible rfl | rfl
    simp only [Act.put, List.getElem_toArray, List.getElem_cons_zero, List.getElem_cons_succ, List.setIfInBounds_toArray, List.set_cons_zero, List.set_cons_succ]
    apply s_val
    case ho => rfl
    case hw => rfl
    case hv => intro w hw; go_simp; first | done | with_reducible rfl | rfl
    simp only [Act.put, List.getElem_toArray, List.getElem_cons_zero, List.getElem_cons_succ, List.setIfInBounds_toArray, List.set_cons_zero, List.set_cons_succ]
    apply s_val
    case ho => rfl
    case hw => rfl
    case hv => intro w hw; go_simp; first | done | with_reducible rfl | rfl
    simp only [Act.put, List.getElem_toArray, List.getElem_cons_zero, List.getElem_cons_succ, List.setIfInBounds_toArray, List.set_cons_zero, List.set_cons_succ]
    apply s_val
    case ho => rfl
    case hw => rfl
    case hv => intro w hw; go_simp; first | done | with_reducible rfl | rfl
    simp only [Act.put, List.getElem_toArray, List.getElem_cons_zero, List.getElem_cons_succ, List.setIfInBounds_toArray, List.set_cons_zero, List.set_cons_succ]
    apply s_val
    case ho => rfl
    case hw => rfl
    case hv => intro w hw; go_simp; first | done | with_reducible rfl | rfl
    simp only [Act.put, List.getElem_toArray, List.getElem_cons_zero, List.getElem_cons_succ, List.setIfInBounds_toArray, List.set_cons_zero, List.set_cons_succ]
    apply s_val
    case ho => rfl
    case hw => rfl
    case hv => intro w hw; go_simp; first | done | with_reducible rfl | rfl
    simp only [Act.put, List.getElem_toArray, List.getElem_cons_zero, List.getElem_cons_succ, List.setIfInBounds_toArray, List.set_cons_zero, List.set_cons_succ]
    apply s_val
    case ho => rfl
    case hw => rfl
    case hv => intro w hw; go_simp; first | done | with_reducible rfl | rfl
    simp only [Act.put, List.getElem_toArray, List.getElem_cons_zero, List.getElem_cons_succ, List.setIfInBounds_toArray, List.set_cons_zero, List.set_cons_succ]
    apply s_val
    case ho => rfl
    case hw => rfl
    case hv => intro w hw; go_simp; first | done | with_reducible rfl | rfl
    simp only [Act.put, List.getElem_toArray, List.getElem_cons_zero, List.getElem_cons_succ, List.setIfInBounds_toArray, List.set_cons_zero, List.set_cons_succ]
    apply s_val
    case ho => rfl
    case hw => rfl
    case hv => intro w hw; go_simp; first | done | with_reducible rfl | rfl
    simp only [Act.put, List.getElem_toArray, List.getElem_cons_zero, List.getElem_cons_succ, List.setIfInBounds_toArray, List.set_cons_zero, List.set_cons_succ]
    apply s_val
    case ho => rfl
    case hw => rfl
    case hv => intro w hw; go_simp; first | done | with_reducible rfl | rfl
    simp only [Act.put, List.getElem_toArray, List.getElem_cons_zero, List.getElem_cons_succ, List.setIfInBounds_toArray, List.set_cons_zero, List.set_cons_succ]
    apply s_val
    case ho => rfl
    case hw => rfl
    case hv => intro w hw; go_simp; first | done | with_reducible rfl | rfl
    simp only [Act.put, List.getElem_toArray, List.getElem_cons_zero, List.getElem_cons_succ, List.setIfInBounds_toArray, List.set_cons_zero, List.set_cons_succ]
    refine NoPanic.normal ?_
    go_wp2_with fail
    go_ret
    exact ⟨rfl, HB5.out⟩
end Go.Proofs.YtgfdhgnkanekhaaDoor
