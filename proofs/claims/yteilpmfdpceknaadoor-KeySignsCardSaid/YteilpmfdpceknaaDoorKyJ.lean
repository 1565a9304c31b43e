/-
  The document's key: Sign.
-/
import Derived.Test.YteilpmfdpceknaaDoorKyI
namespace Go.Proofs.YteilpmfdpceknaaDoor
set_option maxRecDepth 100000
set_option linter.unusedVariables false
set_option linter.unusedSimpArgs false
open Go.RowKit

theorem conv1 (W : World) (b m : Nat) (hm : m < 256) (hc : W.cell? ⟨b, 0, none⟩ = some (.int .u8 (m : Int))) : (convert 76 9 (.slice (some ⟨b, 0, none⟩) 1 1)).run Tryd.prog W = .ok (.string (mkS [UInt8.ofNat m])) W := by
  refine run_str_at (P := Tryd.prog) (src := 76) (e := 5) (dst := 9) Tryd.underlying76 Tryd.underlying5 Tryd.underlying9 b 0 1 [UInt8.ofNat m] (w := W) fun i hi => ?_
  obtain rfl : i = 0 := by simpa using hi
  simp only [Nat.add_zero]
  rw [hc]
  simp [u8n m hm]
theorem mk_cat (a : ByteArray) (l m : List UInt8) (h : a.data.toList = l) : a ++ mkS m = mkS (l ++ m) := by rw [← mkS_append, ← h]; rfl

set_option maxHeartbeats 16000000 in
theorem rksign_any (w : World) (S : ByteArray) (H N : Int) (t : ByteArray) (ht : t.size ≤ 281474976710656 / 4) :
    Calls Tryd.prog 15 #[.agg #[.string S, .int .i64 H, .int .i64 N], .string t] w fun e w' => e = .returned (.tuple #[.agg (sgA S H N).toArray, .string (sgS S H N t.data.toList), .int .i64 (sgE S H N)]) ∧ Below w.heap.size w w' := by
  have c1 := hidp (fun W => rkyCheck_any W S H N)
  cases hok : kyOk S H N with
  | false =>
    have hE : kyE S H N = 2 := by unfold kyE; rw [hok]; rfl
    obtain ⟨g1, g2, g3⟩ := sg_no t.data.toList hok
    have G1 := hidp g1; have G2 := hidp g2; have G3 := hidp g3
    rw [hE] at c1
    clear hE hok g1 g2 g3
    go_enter Tryd.func15, Tryd.ntmps15
    go_wp2_with (first | (refine wpL_boxK rfl _ rfl [.string S, .int .i64 H, .int .i64 N] rfl ?_; intro b2 w1 n1) | (refine wpL_newK rfl rfl ?_; intro b4 w2 n2; have HA := hidp (n2.old n1.arr); have HR := hidp n2.arr; have HB := hidp (n1.below.trans (n2.below.mono n1.below.size)); have h2w := hidp n1.le; have h24 := hidp (show b2 < b4 from by have := n2.at_; have := n1.lt; omega); clear n1 n2) | (refine wpL_getK rfl (.tmp 2) rfl b2 _ _ _ rfl HA.out ?_))
    refine (c1.out _).mono ?_
    rintro e w3 ⟨rfl, hb3⟩
    have HA3 := hidp (HA.out.below hb3 HA.out.lt); have HR3 := hidp (HR.out.below hb3 HR.out.lt); have HB3 := hidp (HB.out.trans (hb3.mono HB.out.size))
    clear hb3 HA HR HB
    obtain ⟨y0, y1, y2, yf⟩ := arr3k HR3.out
    have f0 := yf 0; have f1 := yf 1; have f2 := yf 2
    clear yf
    go_wp2_with fail
    clear y0 y1 y2 f0 f1 f2
    obtain ⟨w9, hw9, ha9, hp9⟩ := set3 HR3.out (.string ⟨#[]⟩) (.int .i64 0) (.int .i64 0)
    rw [hw9]
    have HB9 := hidp (hp9.below' HB3.out (by have := h2w.out; have := h24.out; omega))
    obtain ⟨y0, y1, y2, -⟩ := arr3k ha9
    refine bodyPost_ret (v := .tuple #[.agg #[.string ⟨#[]⟩, .int .i64 0, .int .i64 0], .string ⟨#[]⟩, .int .i64 2]) (by simp [results, Tryd.results15, go_sem, y0, y1, y2]) rfl ⟨by rw [G1.out, G2.out, G3.out], HB9.out⟩
  | true =>
    have hE : kyE S H N = 0 := by unfold kyE; rw [hok]; rfl
    obtain ⟨⟨s1, s2⟩, ⟨q1, q2⟩, q3, q4⟩ := kyOk_parts hok
    rw [hE] at c1
    obtain ⟨h, rfl⟩ : ∃ h : Nat, H = h := ⟨H.toNat, by omega⟩
    obtain ⟨m, rfl⟩ : ∃ m : Nat, N = m := ⟨N.toNat, by omega⟩
    have hh7 : h ≤ 7 := by omega
    have ci := hidp (fun W => rplaces_any W h hh7)
    have hm0 : m ≤ 2 ^ h := by rw [Int.toNat_natCast] at q4; exact_mod_cast q4
    clear hE q1 q2 q3 q4
    by_cases hn : m = 2 ^ h
    · obtain ⟨g1, g2, g3⟩ := sg_over t.data.toList hok (by rw [Int.toNat_natCast, hn])
      have G1 := hidp g1; have G2 := hidp g2; have G3 := hidp g3
      rw [← hn] at ci
      have e0 : ((m : Int) == (m : Int)) = true := by simp
      clear g1 g2 g3 hok hn hm0
      go_enter Tryd.func15, Tryd.ntmps15
      go_wp2_with (first | (refine wpL_boxK rfl _ rfl [.string S, .int .i64 (h : Int), .int .i64 (m : Int)] rfl ?_; intro b2 w1 n1) | (refine wpL_newK rfl rfl ?_; intro b4 w2 n2; have HA := hidp (n2.old n1.arr); have HR := hidp n2.arr; have HB := hidp (n1.below.trans (n2.below.mono n1.below.size)); have h2w := hidp n1.le; have h24 := hidp (show b2 < b4 from by have := n2.at_; have := n1.lt; omega); clear n1 n2) | (refine wpL_getK rfl (.tmp 2) rfl b2 _ _ _ rfl HA.out ?_))
      refine (c1.out _).mono ?_
      rintro e w3 ⟨rfl, hb3⟩
      have HA3 := hidp (HA.out.below hb3 HA.out.lt); have HR3 := hidp (HR.out.below hb3 HR.out.lt); have HB3 := hidp (HB.out.trans (hb3.mono HB.out.size))
      clear hb3 HA HR HB
      go_wp2_with fail
      obtain ⟨U, hU⟩ : ∃ U, ({ w3 with drawn := w3.drawn + 1 } : World) = U := ⟨_, rfl⟩
      have bU : Below w3.heap.size w3 U := by rw [← hU]; exact (Below.refl _ _).drew
      have HA6 := hidp (HA3.out.below bU HA3.out.lt); have HR6 := hidp (HR3.out.below bU HR3.out.lt); have HB6 := hidp (HB3.out.trans (bU.mono HB3.out.size))
      clear bU HA3 HR3 HB3
      refine wp_region_noPanic ?_
      refine wp_region_scr (S := fun W => Arr W b2 23 [.string S, .int .i64 (h : Int), .int .i64 (m : Int)]) (.take 0 (.take 1 (.take 2 (.take 3 (.one 4 (.take 5 .done)))))) (by kernel_rfl) (by kernel_rfl) (fun _ _ _ _ _ h => h) (by simp [Scr.depth]) (by kernel_rfl) (by rw [hU]; exact HA6.out) ?_
      simp only [hU]
      clear hU
      apply s_val
      case ho => rfl
      case hw => rfl
      case hv => intro w hw; obtain ⟨x0, x1, x2, -⟩ := arr3k hw; go_simp; first | done | with_reducible rfl | rfl
      simp only [Act.put, List.getElem_toArray, List.getElem_cons_zero, List.getElem_cons_succ, List.setIfInBounds_toArray, List.set_cons_zero, List.set_cons_succ]
      apply s_val
      case ho => rfl
      case hw => rfl
      case hv => intro w hw; obtain ⟨x0, x1, x2, -⟩ := arr3k hw; go_simp; first | done | with_reducible rfl | rfl
      simp only [Act.put, List.getElem_toArray, List.getElem_cons_zero, List.getElem_cons_succ, List.setIfInBounds_toArray, List.set_cons_zero, List.set_cons_succ]
      apply s_val
      case ho => rfl
      case hw => rfl
      case hv => intro w hw; obtain ⟨x0, x1, x2, -⟩ := arr3k hw; go_simp; first | done | with_reducible rfl | rfl
      simp only [Act.put, List.getElem_toArray, List.getElem_cons_zero, List.getElem_cons_succ, List.setIfInBounds_toArray, List.set_cons_zero, List.set_cons_succ]
      apply s_val
      case ho => rfl
      case hw => rfl
      case hv => intro w hw; obtain ⟨x0, x1, x2, -⟩ := arr3k hw; go_simp; first | done | with_reducible rfl | rfl
      simp only [Act.put, List.getElem_toArray, List.getElem_cons_zero, List.getElem_cons_succ, List.setIfInBounds_toArray, List.set_cons_zero, List.set_cons_succ]
      apply o_call (f := 52) (args := #[.int .i64 (h : Int)]) (v := .int .i64 ((m : Nat) : Int)) (hc := ci.out _)
      case ho => rfl
      case hw => rfl
      case hop => go_simp; first | done | rfl
      rintro W' rfl
      refine ⟨HA6.out, ?_⟩
      simp only [Act.put, List.getElem_toArray, List.getElem_cons_zero, List.getElem_cons_succ, List.setIfInBounds_toArray, List.set_cons_zero, List.set_cons_succ]
      apply s_val
      case ho => rfl
      case hw => rfl
      case hv => intro w hw; go_simp; first | done | with_reducible rfl | rfl
      simp only [Act.put, List.getElem_toArray, List.getElem_cons_zero, List.getElem_cons_succ, List.setIfInBounds_toArray, List.set_cons_zero, List.set_cons_succ]
      refine NoPanic.normal ?_
      obtain ⟨y0, y1, y2, yf⟩ := arr3k HR6.out
      have f0 := yf 0; have f1 := yf 1; have f2 := yf 2
      clear yf
      obtain ⟨x0, x1, x2, -⟩ := arr3k HA6.out
      go_wp2_with fail
      clear y0 y1 y2 f0 f1 f2 x0 x1 x2
      obtain ⟨w9, hw9, ha9, hp9⟩ := set3 HR6.out (.string S) (.int .i64 (h : Int)) (.int .i64 (m : Int))
      rw [hw9]
      have HB9 := hidp (hp9.below' HB6.out (by have := h2w.out; have := h24.out; omega))
      obtain ⟨y0, y1, y2, -⟩ := arr3k ha9
      refine bodyPost_ret (v := .tuple #[.agg #[.string S, .int .i64 (h : Int), .int .i64 (m : Int)], .string ⟨#[]⟩, .int .i64 10]) (by simp [results, Tryd.results15, go_sem, y0, y1, y2]) rfl ⟨by rw [G1.out, G2.out, G3.out], HB9.out⟩
    · have hm1 : m < 2 ^ h := by omega
      have hne : (m : Int) ≠ ((2 ^ h : Nat) : Int) := by exact_mod_cast hn
      obtain ⟨g1, g2, g3⟩ := sg_yes t.data.toList hok (by rw [Int.toNat_natCast]; exact hne)
      have G1 := hidp g1; have G3 := hidp g3
      have hP := pow_le7 hh7
      have hm128 : m < 128 := by omega
      have hmS : S.size ≤ 64 := s2
      have cp := hidp (fun W => leaves_any W S h m hmS hh7)
      have hpE := pathE_leaf S.data.toList hh7 hm1
      have hLl := leafL_len S.data.toList h
      obtain ⟨L, hL⟩ : ∃ L, leafL S.data.toList h = L := ⟨_, rfl⟩
      rw [hL] at cp hpE hLl
      obtain ⟨p, hp⟩ : ∃ p, pathV L m = p := ⟨_, rfl⟩
      have hpn : p.length ≤ 7 := by rw [← hp]; exact pathV_le
      have ct := hidp (show ∀ W v, HsAt W v L → Calls Tryd.prog 55 #[v, .int .i64 (m : Int)] W fun e w' => ∃ v', e = .returned (.tuple #[v', .int .i64 0]) ∧ OwnH w' W.heap.size v' p ∧ Below W.heap.size W w' from fun W v hv => by
        have := rpath_any W v L m (by simp [Lit.wf, IntKind.min, IntKind.max, IntKind.signed, IntKind.bits]; omega) hv (by rw [hLl]; omega)
        rw [hpE, hp] at this; exact this)
      obtain ⟨P, hPP⟩ : ∃ P, 2 ^ h = P := ⟨_, rfl⟩
      rw [hPP] at ci hne
      have e0 : ((m : Int) == (P : Int)) = false := by rw [beq_eq_false_iff_ne]; exact hne
      obtain ⟨n, hn7⟩ : ∃ n, p.length = n := ⟨_, rfl⟩
      have HN := hidp hn7
      obtain ⟨sd, hsd⟩ : ∃ s, mkS (seedL S.data.toList m) = s := ⟨_, rfl⟩
      have hsds : sd.size = 16 := by rw [← hsd, mkS_size, seedL_len]
      have cs := hidp (show ∀ W, Calls Tryd.prog 54 #[.agg #[.string S, .int .i64 (h : Int), .int .i64 (m : Int)], .int .i64 (m : Int)] W fun e w' => e = .returned (.string sd) ∧ Below W.heap.size W w' from fun W => by
        have := rkseed_any W S h m hmS m (by omega)
        rw [hsd] at this; exact this)
      obtain ⟨G, hG⟩ : ∃ s, mkS (signL (seedL S.data.toList m) t.data.toList) = s := ⟨_, rfl⟩
      have hGs := hidp (show G.size = 1088 from by rw [← hG, mkS_size, signL_len])
      have cg := hidp (show ∀ W, Calls Tryd.prog 53 #[.string sd, .string t] W fun e w' => e = .returned (.string G) ∧ Below W.heap.size W w' from fun W => by
        have := rsign_any W sd t (by omega) ht
        rw [show sd.data.toList = seedL S.data.toList m from by rw [← hsd, mkS_data], hG] at this; exact this)
      have hGd : G.data.toList = signL (seedL S.data.toList m) t.data.toList := by rw [← hG, mkS_data]
      have G2' := hidp (show sgS S (h : Int) (m : Int) t.data.toList = mkS (([UInt8.ofNat m] ++ G.data.toList) ++ flat p) from by
        rw [g2, Int.toNat_natCast, Int.toNat_natCast, hGd]; unfold sigL sigH; rw [hL, hp]; rfl)
      obtain ⟨C1, hC1⟩ : ∃ C, mkS [UInt8.ofNat m] = C := ⟨_, rfl⟩
      have CAT := hidp (show C1 ++ G = mkS ([UInt8.ofNat m] ++ G.data.toList) from by rw [← hC1, ← mkS_append]; rfl)
      have hnc : ¬ 9223372036854775807 < C1.size + G.size := by rw [← hC1, hGs.out, mkS_size]; simp
      rw [hn7] at hpn
      have hw1 : IntKind.u8.wrap (m : Int) = (m : Int) := by unfold IntKind.wrap; simp [IntKind.bits, IntKind.signed]; omega
      have hw2 : IntKind.i64.wrap ((m : Int) + 1) = (m : Int) + 1 := by rw [IntKind.wrap_i64]; omega
      clear hn7 hsd hG hGd hp hL g1 g2 g3 hok hn hm0 hm1 hP hpE hLl hPP
      go_enter Tryd.func15, Tryd.ntmps15
      go_wp2_with (first | (refine wpL_boxK rfl _ rfl [.string S, .int .i64 (h : Int), .int .i64 (m : Int)] rfl ?_; intro b2 w1 n1) | (refine wpL_newK rfl rfl ?_; intro b4 w2 n2; have HA := hidp (n2.old n1.arr); have HR := hidp n2.arr; have HB := hidp (n1.below.trans (n2.below.mono n1.below.size)); have h2w := hidp n1.le; have h24 := hidp (show b2 < b4 from by have := n2.at_; have := n1.lt; omega); clear n1 n2) | (refine wpL_getK rfl (.tmp 2) rfl b2 _ _ _ rfl HA.out ?_))
      refine (c1.out _).mono ?_
      rintro e w3 ⟨rfl, hb3⟩
      have HA3 := hidp (HA.out.below hb3 HA.out.lt); have HR3 := hidp (HR.out.below hb3 HR.out.lt); have HB3 := hidp (HB.out.trans (hb3.mono HB.out.size))
      clear hb3 HA HR HB
      go_wp2_with fail
      obtain ⟨U, hU⟩ : ∃ U, ({ w3 with drawn := w3.drawn + 1 } : World) = U := ⟨_, rfl⟩
      have bU : Below w3.heap.size w3 U := by rw [← hU]; exact (Below.refl _ _).drew
      have HA6 := hidp (HA3.out.below bU HA3.out.lt); have HR6 := hidp (HR3.out.below bU HR3.out.lt); have HB6 := hidp (HB3.out.trans (bU.mono HB3.out.size))
      clear bU HA3 HR3 HB3
      refine wp_region_noPanic ?_
      refine wp_region_scr (S := fun W => Arr W b2 23 [.string S, .int .i64 (h : Int), .int .i64 (m : Int)]) (.take 0 (.take 1 (.take 2 (.take 3 (.one 4 (.take 5 .done)))))) (by kernel_rfl) (by kernel_rfl) (fun _ _ _ _ _ h => h) (by simp [Scr.depth]) (by kernel_rfl) (by rw [hU]; exact HA6.out) ?_
      simp only [hU]
      clear hU
      apply s_val
      case ho => rfl
      case hw => rfl
      case hv => intro w hw; obtain ⟨x0, x1, x2, -⟩ := arr3k hw; go_simp; first | done | with_reducible rfl | rfl
      simp only [Act.put, List.getElem_toArray, List.getElem_cons_zero, List.getElem_cons_succ, List.setIfInBounds_toArray, List.set_cons_zero, List.set_cons_succ]
      apply s_val
      case ho => rfl
      case hw => rfl
      case hv => intro w hw; obtain ⟨x0, x1, x2, -⟩ := arr3k hw; go_simp; first | done | with_reducible rfl | rfl
      simp only [Act.put, List.getElem_toArray, List.getElem_cons_zero, List.getElem_cons_succ, List.setIfInBounds_toArray, List.set_cons_zero, List.set_cons_succ]
      apply s_val
      case ho => rfl
      case hw => rfl
      case hv => intro w hw; obtain ⟨x0, x1, x2, -⟩ := arr3k hw; go_simp; first | done | with_reducible rfl | rfl
      simp only [Act.put, List.getElem_toArray, List.getElem_cons_zero, List.getElem_cons_succ, List.setIfInBounds_toArray, List.set_cons_zero, List.set_cons_succ]
      apply s_val
      case ho => rfl
      case hw => rfl
      case hv => intro w hw; obtain ⟨x0, x1, x2, -⟩ := arr3k hw; go_simp; first | done | with_reducible rfl | rfl
      simp only [Act.put, List.getElem_toArray, List.getElem_cons_zero, List.getElem_cons_succ, List.setIfInBounds_toArray, List.set_cons_zero, List.set_cons_succ]
      apply o_call (f := 52) (args := #[.int .i64 (h : Int)]) (v := .int .i64 ((P : Nat) : Int)) (hc := ci.out _)
      case ho => rfl
      case hw => rfl
      case hop => go_simp; first | done | rfl
      rintro W' rfl
      refine ⟨HA6.out, ?_⟩
      simp only [Act.put, List.getElem_toArray, List.getElem_cons_zero, List.getElem_cons_succ, List.setIfInBounds_toArray, List.set_cons_zero, List.set_cons_succ]
      apply s_val
      case ho => rfl
      case hw => rfl
      case hv => intro w hw; go_simp; first | done | with_reducible rfl | rfl
      simp only [Act.put, List.getElem_toArray, List.getElem_cons_zero, List.getElem_cons_succ, List.setIfInBounds_toArray, List.set_cons_zero, List.set_cons_succ]
      refine NoPanic.normal ?_
      go_wp2_with fail
      obtain ⟨U, hU⟩ : ∃ U, ({ W' with drawn := W'.drawn + 1 } : World) = U := ⟨_, rfl⟩
      have bU : Below W'.heap.size W' U := by rw [← hU]; exact (Below.refl _ _).drew
      have HA := hidp (HA6.out.below bU HA6.out.lt); have HR := hidp (HR6.out.below bU HR6.out.lt); have HB := hidp (HB6.out.trans (bU.mono HB6.out.size))
      clear bU HA6 HR6 HB6
      obtain ⟨B0, hB0⟩ : ∃ B0, U.heap.size = B0 := ⟨_, rfl⟩
      have HB0 := hidp hB0
      have h2B := hidp (show b2 < B0 from by rw [← hB0]; exact HA.out.lt); have h4B := hidp (show b4 < B0 from by rw [← hB0]; exact HR.out.lt); have hwB := hidp (show w.heap.size ≤ B0 from by rw [← hB0]; exact HB.out.size)
      clear hB0
      refine wp_region_noPanic ?_
      refine wp_region_scr (S := fun W => Arr W b2 23 [.string S, .int .i64 (h : Int), .int .i64 (m : Int)]) (.take 0 (.take 1 (.take 2 (.take 5 (.take 6 (.take 7 (.take 9 (.two 3 (.two 4 (.one 8 (.one 10 (.take 11 (.take 12 .done)))) 8 (.two 4 (.one 10 (.take 11 (.take 12 .done))) 10 (.one 4 (.take 11 (.take 12 .done))))) 8 (.two 3 (.two 4 (.one 10 (.take 11 (.take 12 .done))) 10 (.one 4 (.take 11 (.take 12 .done)))) 10 (.one 3 (.one 4 (.take 11 (.take 12 .done))))))))))))) (by kernel_rfl) (by kernel_rfl) (fun _ _ _ _ _ h => h) (by simp [Scr.depth]) (by kernel_rfl) (by rw [hU]; exact HA.out) ?_
      simp only [hU]
      clear hU
      apply s_val
      case ho => rfl
      case hw => rfl
      case hv => intro w hw; obtain ⟨x0, x1, x2, -⟩ := arr3k hw; go_simp; first | done | with_reducible rfl | rfl
      simp only [Act.put, List.getElem_toArray, List.getElem_cons_zero, List.getElem_cons_succ, List.setIfInBounds_toArray, List.set_cons_zero, List.set_cons_succ]
      apply s_val
      case ho => rfl
      case hw => rfl
      case hv => intro w hw; obtain ⟨x0, x1, x2, -⟩ := arr3k hw; go_simp; first | done | with_reducible rfl | rfl
      simp only [Act.put, List.getElem_toArray, List.getElem_cons_zero, List.getElem_cons_succ, List.setIfInBounds_toArray, List.set_cons_zero, List.set_cons_succ]
      apply s_val
      case ho => rfl
      case hw => rfl
      case hv => intro w hw; obtain ⟨x0, x1, x2, -⟩ := arr3k hw; go_simp; first | done | with_reducible rfl | rfl
      simp only [Act.put, List.getElem_toArray, List.getElem_cons_zero, List.getElem_cons_succ, List.setIfInBounds_toArray, List.set_cons_zero, List.set_cons_succ]
      apply s_val
      case ho => rfl
      case hw => rfl
      case hv => intro w hw; obtain ⟨x0, x1, x2, -⟩ := arr3k hw; go_simp; first | done | with_reducible rfl | rfl
      simp only [Act.put, List.getElem_toArray, List.getElem_cons_zero, List.getElem_cons_succ, List.setIfInBounds_toArray, List.set_cons_zero, List.set_cons_succ]
      apply s_val
      case ho => rfl
      case hw => rfl
      case hv => intro w hw; obtain ⟨x0, x1, x2, -⟩ := arr3k hw; go_simp; first | done | with_reducible rfl | rfl
      simp only [Act.put, List.getElem_toArray, List.getElem_cons_zero, List.getElem_cons_succ, List.setIfInBounds_toArray, List.set_cons_zero, List.set_cons_succ]
      apply s_val
      case ho => rfl
      case hw => rfl
      case hv => intro w hw; obtain ⟨x0, x1, x2, -⟩ := arr3k hw; go_simp; first | done | with_reducible rfl | rfl
      simp only [Act.put, List.getElem_toArray, List.getElem_cons_zero, List.getElem_cons_succ, List.setIfInBounds_toArray, List.set_cons_zero, List.set_cons_succ]
      apply s_val
      case ho => rfl
      case hw => rfl
      case hv => intro w hw; obtain ⟨x0, x1, x2, -⟩ := arr3k hw; go_simp; first | done | with_reducible rfl | rfl
      simp only [Act.put, List.getElem_toArray, List.getElem_cons_zero, List.getElem_cons_succ, List.setIfInBounds_toArray, List.set_cons_zero, List.set_cons_succ]
      have HQ0 := hidp (Below.refl B0 U)
      refine ⟨?_, ?_⟩
      · refine o_make (v := .slice (some ⟨U.heap.size, 0, none⟩) 1 1) (W := U.alloc (.cells #[.int .u8 (m : Int)] 5)) rfl rfl (by go_simp; first | done | rfl) ?_ ?_
        · exact (HA.out.below HQ0.out h2B.out).alloc _
        obtain ⟨X1, hX⟩ : ∃ X, U.alloc (.cells #[.int .u8 (m : Int)] 5) = X := ⟨_, rfl⟩
        have HC1 := hidp (show Arr X1 U.heap.size 5 [.int .u8 (m : Int)] from by rw [← hX]; exact Arr.new _ _ _)
        have HQ1 := hidp (show Below B0 U X1 from by rw [← hX]; exact HQ0.out.alloc (by have := HQ0.out.size; have := HB0.out; omega) _)
        rw [hX]
        clear hX
        simp only [Act.put, List.getElem_toArray, List.getElem_cons_zero, List.getElem_cons_succ, List.setIfInBounds_toArray, List.set_cons_zero, List.set_cons_succ]
        refine ⟨?_, ?_⟩
        · refine o_make (v := .string C1) (W := X1) rfl rfl ?_ (HA.out.below HQ1.out h2B.out) ?_
          · have hc := conv1 X1 _ m (by omega) (HC1.out.cell 0 (by simp))
            rw [hC1] at hc
            go_simp
          simp only [Act.put, List.getElem_toArray, List.getElem_cons_zero, List.getElem_cons_succ, List.setIfInBounds_toArray, List.set_cons_zero, List.set_cons_succ]
          apply o_call (f := 54) (args := #[.agg #[.string S, .int .i64 (h : Int), .int .i64 (m : Int)], .int .i64 (m : Int)]) (v := .string sd) (hc := cs.out _)
          case ho => rfl
          case hw => rfl
          case hop => go_simp; first | done | rfl
          rintro X2 hb
          have HQ2 := hidp (HQ1.out.trans (hb.mono (by have := HQ1.out.size; have := HB0.out; omega)))
          refine ⟨HA.out.below HQ2.out h2B.out, ?_⟩
          have HC2 := hidp (HC1.out.below hb HC1.out.lt)
          clear hb
          simp only [Act.put, List.getElem_toArray, List.getElem_cons_zero, List.getElem_cons_succ, List.setIfInBounds_toArray, List.set_cons_zero, List.set_cons_succ]
          apply o_call (f := 53) (args := #[.string sd, .string t]) (v := .string G) (hc := cg.out _)
          case ho => rfl
          case hw => rfl
          case hop => go_simp; first | done | rfl
          rintro X3 hb
          have HQ3 := hidp (HQ2.out.trans (hb.mono (by have := HQ2.out.size; have := HB0.out; omega)))
          refine ⟨HA.out.below HQ3.out h2B.out, ?_⟩
          have HC3 := hidp (HC2.out.below hb HC2.out.lt)
          clear hb
          simp only [Act.put, List.getElem_toArray, List.getElem_cons_zero, List.getElem_cons_succ, List.setIfInBounds_toArray, List.set_cons_zero, List.set_cons_succ]
          apply s_val
          case ho => rfl
          case hw => rfl
          case hv => intro w hw; go_simp; first | done | with_reducible rfl | rfl
          simp only [Act.put, List.getElem_toArray, List.getElem_cons_zero, List.getElem_cons_succ, List.setIfInBounds_toArray, List.set_cons_zero, List.set_cons_succ]
          apply s_val
          case ho => rfl
          case hw => rfl
          case hv => intro w hw; go_simp; first | done | with_reducible rfl | rfl
          simp only [Act.put, List.getElem_toArray, List.getElem_cons_zero, List.getElem_cons_succ, List.setIfInBounds_toArray, List.set_cons_zero, List.set_cons_succ]
          refine NoPanic.normal ?_
          have HA6 := hidp (HA.out.below HQ3.out h2B.out); have HR6 := hidp (HR.out.below HQ3.out h4B.out); have HB6 := hidp (HB.out.trans (HQ3.out.mono hwB.out))
          go_wp2_with fail
          obtain ⟨U7, hU⟩ : ∃ U, ({ X3 with drawn := X3.drawn + 1 } : World) = U := ⟨_, rfl⟩
          have bU : Below X3.heap.size X3 U7 := by rw [← hU]; exact (Below.refl _ _).drew
          have HA7 := hidp (HA6.out.below bU HA6.out.lt); have HR7 := hidp (HR6.out.below bU HR6.out.lt); have HB7 := hidp (HB6.out.trans (bU.mono HB6.out.size))
          clear bU HA6 HR6 HB6 HA HR HB HQ0
          refine wp_region_noPanic ?_
          refine wp_region_scr (S := fun W => Arr W b2 23 [.string S, .int .i64 (h : Int), .int .i64 (m : Int)]) (.take 0 (.take 2 (.take 3 (.one 1 (.one 4 (.take 5 (.take 6 (.take 7 (.take 8 (.take 9 .done)))))))))) (by kernel_rfl) (by kernel_rfl) (fun _ _ _ _ _ h => h) (by simp [Scr.depth]) (by kernel_rfl) (by rw [hU]; exact HA7.out) ?_
          simp only [hU]
          clear hU
          apply s_val
          case ho => rfl
          case hw => rfl
          case hv => intro w hw; obtain ⟨x0, x1, x2, -⟩ := arr3k hw; go_simp; first | done | with_reducible rfl | rfl
          simp only [Act.put, List.getElem_toArray, List.getElem_cons_zero, List.getElem_cons_succ, List.setIfInBounds_toArray, List.set_cons_zero, List.set_cons_succ]
          apply s_val
          case ho => rfl
          case hw => rfl
          case hv => intro w hw; obtain ⟨x0, x1, x2, -⟩ := arr3k hw; go_simp; first | done | with_reducible rfl | rfl
          simp only [Act.put, List.getElem_toArray, List.getElem_cons_zero, List.getElem_cons_succ, List.setIfInBounds_toArray, List.set_cons_zero, List.set_cons_succ]
          apply s_val
          case ho => rfl
          case hw => rfl
          case hv => intro w hw; obtain ⟨x0, x1, x2, -⟩ := arr3k hw; go_simp; first | done | with_reducible rfl | rfl
          simp only [Act.put, List.getElem_toArray, List.getElem_cons_zero, List.getElem_cons_succ, List.setIfInBounds_toArray, List.set_cons_zero, List.set_cons_succ]
          apply o_callE (f := 46) (args := #[.agg #[.string S, .int .i64 (h : Int), .int .i64 (m : Int)]]) (hc := cp.out _)
          case ho => rfl
          case hw => rfl
          case hop => go_simp; first | done | rfl
          rintro vL W8 ⟨hv, hb⟩
          refine ⟨HA7.out.below hb HA7.out.lt, ?_⟩
          have HA8 := hidp (HA7.out.below hb HA7.out.lt); have HR8 := hidp (HR7.out.below hb HR7.out.lt); have HB8 := hidp (HB7.out.trans (hb.mono HB7.out.size)); have HV8 := hidp hv
          clear hb hv HA7 HR7 HB7
          simp only [Act.put, List.getElem_toArray, List.getElem_cons_zero, List.getElem_cons_succ, List.setIfInBounds_toArray, List.set_cons_zero, List.set_cons_succ]
          apply o_callP (f := 55) (args := #[vL, .int .i64 (m : Int)]) (hc := ct.out _ _ HV8.out.hs)
          case ho => rfl
          case hw => rfl
          case hop => go_simp; first | done | rfl
          rintro vp W9 ⟨hv, hb⟩
          refine ⟨HA8.out.below hb HA8.out.lt, ?_⟩
          have HA9 := hidp (HA8.out.below hb HA8.out.lt); have HR9 := hidp (HR8.out.below hb HR8.out.lt); have HB9 := hidp (HB8.out.trans (hb.mono HB8.out.size)); have HP9 := hidp hv.hs
          clear hb hv HA8 HR8 HB8 HV8
          obtain ⟨ap, cp', rfl⟩ := HP9.out.form
          rw [HN.out] at HP9 ⊢
          simp only [Act.put, List.getElem_toArray, List.getElem_cons_zero, List.getElem_cons_succ, List.setIfInBounds_toArray, List.set_cons_zero, List.set_cons_succ]
          apply s_val
          case ho => rfl
          case hw => rfl
          case hv => intro w hw; go_simp; first | done | with_reducible rfl | rfl
          simp only [Act.put, List.getElem_toArray, List.getElem_cons_zero, List.getElem_cons_succ, List.setIfInBounds_toArray, List.set_cons_zero, List.set_cons_succ]
          apply s_val
          case ho => rfl
          case hw => rfl
          case hv => intro w hw; go_simp; first | done | with_reducible rfl | rfl
          simp only [Act.put, List.getElem_toArray, List.getElem_cons_zero, List.getElem_cons_succ, List.setIfInBounds_toArray, List.set_cons_zero, List.set_cons_succ]
          apply s_val
          case ho => rfl
          case hw => rfl
          case hv => intro w hw; go_simp; first | done | with_reducible rfl | rfl
          simp only [Act.put, List.getElem_toArray, List.getElem_cons_zero, List.getElem_cons_succ, List.setIfInBounds_toArray, List.set_cons_zero, List.set_cons_succ]
          apply s_val
          case ho => rfl
          case hw => rfl
          case hv => intro w hw; go_simp; first | done | with_reducible rfl | rfl
          simp only [Act.put, List.getElem_toArray, List.getElem_cons_zero, List.getElem_cons_succ, List.setIfInBounds_toArray, List.set_cons_zero, List.set_cons_succ]
          apply s_val
          case ho => rfl
          case hw => rfl
          case hv => intro w hw; go_simp; first | done | with_reducible rfl | rfl
          simp only [Act.put, List.getElem_toArray, List.getElem_cons_zero, List.getElem_cons_succ, List.setIfInBounds_toArray, List.set_cons_zero, List.set_cons_succ]
          refine NoPanic.normal ?_
          have hcat := CAT.out
          go_wp2_with fail
          clear hcat
          go_loopw [7, 45] (fun t7 t45 wr => ∃ k : Nat, t45 = .int .i64 (k : Int) ∧ k ≤ n ∧ t7 = .string (mkS (([UInt8.ofNat m] ++ G.data.toList) ++ flat (p.take k))) ∧ Below W9.heap.size W9 wr) (fun _ t45 _ => n - (intOf t45).toNat)
          case atStart => exact ⟨0, rfl, by omega, by rw [CAT.out]; simp [flat], Below.refl _ _⟩
          case round =>
            obtain ⟨k, rfl, hk, rfl, hq⟩ := hrel
            have HQ1 := hidp hq
            have hsz := hidp hq.size
            clear hq
            by_cases hlt : k < n
            · obtain ⟨B, off, c', e1, _, hB, hrr⟩ := HP9.out.get (by rw [HN.out]; omega)
              simp only [Value.slice.injEq] at e1
              obtain ⟨rfl, -, -⟩ := e1
              have hkp' : k < p.length := by rw [HN.out]; exact hlt
              have hxl := hidp (HP9.out.1.get k hkp')
              have hrx := hidp (show wr.rangeAt B (off + 32 * k) (u8s p[k]) from rangeAt_below (range_nth hrr HP9.out.1 k hkp') HQ1.out hB)
              have htk := hidp (show flat (p.take k) ++ p[k] = flat (p.take (k + 1)) from by rw [List.take_succ_eq_append_getElem hkp', flat_snoc])
              obtain ⟨x, hx⟩ : ∃ x, p[k] = x := ⟨_, rfl⟩
              rw [hx] at hxl hrx htk
              have e1 : decide ((k : Int) < (n : Int)) = true := by simp; omega
              clear hx hkp' hrr
              obtain ⟨M1, hM1⟩ : ∃ M, mkS (([UInt8.ofNat m] ++ G.data.toList) ++ flat (p.take k)) = M := ⟨_, rfl⟩
              obtain ⟨M2, hM2⟩ : ∃ M, mkS x = M := ⟨_, rfl⟩
              have hM3 := hidp (show M1 ++ M2 = mkS (([UInt8.ofNat m] ++ G.data.toList) ++ flat (p.take (k + 1))) from by rw [← hM1, ← hM2, mkS_append, List.append_assoc, htk.out])
              have hns : ¬ 9223372036854775807 < M1.size + M2.size := by
                rw [← hM1, ← hM2, mkS_size, mkS_size, hxl.out, List.length_append, flat_len (HP9.out.1.take k), List.length_append, List.length_take, size_toList, hGs.out]; simp; omega
              rw [hM1]
              have HM2 := hidp hM2
              clear hM1 hM2
              go_wp2_with (first | (refine wpL_idx rfl (.tmp 43) (.tmp 45) rfl B off _ _ k rfl rfl hlt ?_) | (refine wpL_at rfl (.tmp 47) rfl B (off + 32 * k) x rfl hxl.out hrx.out ?_) | (refine wpL_new rfl rfl ?_; intro b12 w12 n12) | (refine wpL_put rfl (.tmp 11) (.tmp 48) rfl b12 x rfl rfl hxl.out (u8s z32) rfl n12.arr ?_; intro w13 ha13 hp13; have hcv := str_conv w13 b12 x hxl.out ha13.range; rw [HM2.out] at hcv) | (refine wpL_slc rfl (.tmp 11) rfl b12 0 rfl ?_))
              exact ⟨⟨k + 1, by go_num, by omega, by rw [hM3.out], HQ1.out.trans ((n12.put hp13).mono hsz.out)⟩, by simp [intOf]; omega⟩
            · have e1 : decide ((k : Int) < (n : Int)) = false := by simp; omega
              have hkn : k = n := by omega
              have htk : p.take k = p := by rw [hkn, List.take_of_length_le (by rw [HN.out]; exact Nat.le_refl _)]
              rw [htk]
              have HG2 := hidp G2'.out
              obtain ⟨MS, hMS⟩ : ∃ s, mkS (([UInt8.ofNat m] ++ G.data.toList) ++ flat p) = s := ⟨_, rfl⟩
              rw [hMS] at HG2 ⊢
              clear htk hMS
              have HA1 := hidp (HA9.out.below HQ1.out HA9.out.lt); have HR1 := hidp (HR9.out.below HQ1.out HR9.out.lt); have HB1 := hidp (HB9.out.trans (HQ1.out.mono HB9.out.size))
              clear HA9 HR9 HB9
              obtain ⟨x0, x1, x2, xf⟩ := arr3k HA1.out
              have g0 := xf 0; have g1 := xf 1; have g2 := xf 2
              clear xf
              obtain ⟨y0, y1, y2, yf⟩ := arr3k HR1.out
              have f0 := yf 0; have f1 := yf 1; have f2 := yf 2
              clear yf
              have hne : b2 ≠ b4 := by have := h24.out; omega
              have hne' : b4 ≠ b2 := Ne.symm hne
              go_wp2_with fail
              clear x0 x1 x2 g0 g1 g2 y0 y1 y2 f0 f1 f2
              obtain ⟨w15, hw15, ha15, hp15⟩ := set1 HA1.out 2 (.int .i64 ((m : Int) + 1))
              rw [hw15]
              have HRa := hidp (hp15.arr (by have := h24.out; omega) HR1.out)
              obtain ⟨w16, hw16, ha16, hp16⟩ := set3 HRa.out (.string S) (.int .i64 (h : Int)) (.int .i64 ((m : Int) + 1))
              rw [hw16]
              have HBZ := hidp (hp16.below' (hp15.below' HB1.out h2w.out) (by have := h2w.out; have := h24.out; omega))
              obtain ⟨y0, y1, y2, -⟩ := arr3k ha16
              refine bodyPost_ret (v := .tuple #[.agg #[.string S, .int .i64 (h : Int), .int .i64 ((m : Int) + 1)], .string MS, .int .i64 0]) (by simp [results, Tryd.results15, go_sem, y0, y1, y2]) rfl ⟨by rw [G1.out, HG2.out, G3.out], HBZ.out⟩
        · apply o_call (f := 54) (args := #[.agg #[.string S, .int .i64 (h : Int), .int .i64 (m : Int)], .int .i64 (m : Int)]) (v := .string sd) (hc := cs.out _)
          case ho => rfl
          case hw => rfl
          case hop => go_simp; first | done | rfl
          rintro X4 hb
          have HQ4 := hidp (HQ1.out.trans (hb.mono (by have := HQ1.out.size; have := HB0.out; omega)))
          refine ⟨HA.out.below HQ4.out h2B.out, ?_⟩
          have HC4 := hidp (HC1.out.below hb HC1.out.lt)
          clear hb
          simp only [Act.put, List.getElem_toArray, List.getElem_cons_zero, List.getElem_cons_succ, List.setIfInBounds_toArray, List.set_cons_zero, List.set_cons_succ]
          refine ⟨?_, ?_⟩
          · refine o_make (v := .string C1) (W := X4) rfl rfl ?_ (HA.out.below HQ4.out h2B.out) ?_
            · have hc := conv1 X4 _ m (by omega) (HC4.out.cell 0 (by simp))
              rw [hC1] at hc
              go_simp
            simp only [Act.put, List.getElem_toArray, List.getElem_cons_zero, List.getElem_cons_succ, List.setIfInBounds_toArray, List.set_cons_zero, List.set_cons_succ]
            apply o_call (f := 53) (args := #[.string sd, .string t]) (v := .string G) (hc := cg.out _)
            case ho => rfl
            case hw => rfl
            case hop => go_simp; first | done | rfl
            rintro X5 hb
            have HQ5 := hidp (HQ4.out.trans (hb.mono (by have := HQ4.out.size; have := HB0.out; omega)))
            refine ⟨HA.out.below HQ5.out h2B.out, ?_⟩
            have HC5 := hidp (HC4.out.below hb HC4.out.lt)
            clear hb
            simp only [Act.put, List.getElem_toArray, List.getElem_cons_zero, List.getElem_cons_succ, List.setIfInBounds_toArray, List.set_cons_zero, List.set_cons_succ]
            apply s_val
            case ho => rfl
            case hw => rfl
            case hv => intro w hw; go_simp; first | done | with_reducible rfl | rfl
            simp only [Act.put, List.getElem_toArray, List.getElem_cons_zero, List.getElem_cons_succ, List.setIfInBounds_toArray, List.set_cons_zero, List.set_cons_succ]
            apply s_val
            case ho => rfl
            case hw => rfl
            case hv => intro w hw; go_simp; first | done | with_reducible rfl | rfl
            simp only [Act.put, List.getElem_toArray, List.getElem_cons_zero, List.getElem_cons_succ, List.setIfInBounds_toArray, List.set_cons_zero, List.set_cons_succ]
            refine NoPanic.normal ?_
            have HA6 := hidp (HA.out.below HQ5.out h2B.out); have HR6 := hidp (HR.out.below HQ5.out h4B.out); have HB6 := hidp (HB.out.trans (HQ5.out.mono hwB.out))
            go_wp2_with fail
            obtain ⟨U7, hU⟩ : ∃ U, ({ X5 with drawn := X5.drawn + 1 } : World) = U := ⟨_, rfl⟩
            have bU : Below X5.heap.size X5 U7 := by rw [← hU]; exact (Below.refl _ _).drew
            have HA7 := hidp (HA6.out.below bU HA6.out.lt); have HR7 := hidp (HR6.out.below bU HR6.out.lt); have HB7 := hidp (HB6.out.trans (bU.mono HB6.out.size))
            clear bU HA6 HR6 HB6 HA HR HB HQ0
            refine wp_region_noPanic ?_
            refine wp_region_scr (S := fun W => Arr W b2 23 [.string S, .int .i64 (h : Int), .int .i64 (m : Int)]) (.take 0 (.take 2 (.take 3 (.one 1 (.one 4 (.take 5 (.take 6 (.take 7 (.take 8 (.take 9 .done)))))))))) (by kernel_rfl) (by kernel_rfl) (fun _ _ _ _ _ h => h) (by simp [Scr.depth]) (by kernel_rfl) (by rw [hU]; exact HA7.out) ?_
            simp only [hU]
            clear hU
            apply s_val
            case ho => rfl
            case hw => rfl
            case hv => intro w hw; obtain ⟨x0, x1, x2, -⟩ := arr3k hw; go_simp; first | done | with_reducible rfl | rfl
            simp only [Act.put, List.getElem_toArray, List.getElem_cons_zero, List.getElem_cons_succ, List.setIfInBounds_toArray, List.set_cons_zero, List.set_cons_succ]
            apply s_val
            case ho => rfl
            case hw => rfl
            case hv => intro w hw; obtain ⟨x0, x1, x2, -⟩ := arr3k hw; go_simp; first | done | with_reducible rfl | rfl
            simp only [Act.put, List.getElem_toArray, List.getElem_cons_zero, List.getElem_cons_succ, List.setIfInBounds_toArray, List.set_cons_zero, List.set_cons_succ]
            apply s_val
            case ho => rfl
            case hw => rfl
            case hv => intro w hw; obtain ⟨x0, x1, x2, -⟩ := arr3k hw; go_simp; first | done | with_reducible rfl | rfl
            simp only [Act.put, List.getElem_toArray, List.getElem_cons_zero, List.getElem_cons_succ, List.setIfInBounds_toArray, List.set_cons_zero, List.set_cons_succ]
            apply o_callE (f := 46) (args := #[.agg #[.string S, .int .i64 (h : Int), .int .i64 (m : Int)]]) (hc := cp.out _)
            case ho => rfl
            case hw => rfl
            case hop => go_simp; first | done | rfl
            rintro vL W8 ⟨hv, hb⟩
            refine ⟨HA7.out.below hb HA7.out.lt, ?_⟩
            have HA8 := hidp (HA7.out.below hb HA7.out.lt); have HR8 := hidp (HR7.out.below hb HR7.out.lt); have HB8 := hidp (HB7.out.trans (hb.mono HB7.out.size)); have HV8 := hidp hv
            clear hb hv HA7 HR7 HB7
            simp only [Act.put, List.getElem_toArray, List.getElem_cons_zero, List.getElem_cons_succ, List.setIfInBounds_toArray, List.set_cons_zero, List.set_cons_succ]
            apply o_callP (f := 55) (args := #[vL, .int .i64 (m : Int)]) (hc := ct.out _ _ HV8.out.hs)
            case ho => rfl
            case hw => rfl
            case hop => go_simp; first | done | rfl
            rintro vp W9 ⟨hv, hb⟩
            refine ⟨HA8.out.below hb HA8.out.lt, ?_⟩
            have HA9 := hidp (HA8.out.below hb HA8.out.lt); have HR9 := hidp (HR8.out.below hb HR8.out.lt); have HB9 := hidp (HB8.out.trans (hb.mono HB8.out.size)); have HP9 := hidp hv.hs
            clear hb hv HA8 HR8 HB8 HV8
            obtain ⟨ap, cp', rfl⟩ := HP9.out.form
            rw [HN.out] at HP9 ⊢
            simp only [Act.put, List.getElem_toArray, List.getElem_cons_zero, List.getElem_cons_succ, List.setIfInBounds_toArray, List.set_cons_zero, List.set_cons_succ]
            apply s_val
            case ho => rfl
            case hw => rfl
            case hv => intro w hw; go_simp; first | done | with_reducible rfl | rfl
            simp only [Act.put, List.getElem_toArray, List.getElem_cons_zero, List.getElem_cons_succ, List.setIfInBounds_toArray, List.set_cons_zero, List.set_cons_succ]
            apply s_val
            case ho => rfl
            case hw => rfl
            case hv => intro w hw; go_simp; first | done | with_reducible rfl | rfl
            simp only [Act.put, List.getElem_toArray, List.getElem_cons_zero, List.getElem_cons_succ, List.setIfInBounds_toArray, List.set_cons_zero, List.set_cons_succ]
            apply s_val
            case ho => rfl
            case hw => rfl
            case hv => intro w hw; go_simp; first | done | with_reducible rfl | rfl
            simp only [Act.put, List.getElem_toArray, List.getElem_cons_zero, List.getElem_cons_succ, List.setIfInBounds_toArray, List.set_cons_zero, List.set_cons_succ]
            apply s_val
            case ho => rfl
            case hw => rfl
            case hv => intro w hw; go_simp; first | done | with_reducible rfl | rfl
            simp only [Act.put, List.getElem_toArray, List.getElem_cons_zero, List.getElem_cons_succ, List.setIfInBounds_toArray, List.set_cons_zero, List.set_cons_succ]
            apply s_val
            case ho => rfl
            case hw => rfl
            case hv => intro w hw; go_simp; first | done | with_reducible rfl | rfl
            simp only [Act.put, List.getElem_toArray, List.getElem_cons_zero, List.getElem_cons_succ, List.setIfInBounds_toArray, List.set_cons_zero, List.set_cons_succ]
            refine NoPanic.normal ?_
            have hcat := CAT.out
            go_wp2_with fail
            clear hcat
            go_loopw [7, 45] (fun t7 t45 wr => ∃ k : Nat, t45 = .int .i64 (k : Int) ∧ k ≤ n ∧ t7 = .string (mkS (([UInt8.ofNat m] ++ G.data.toList) ++ flat (p.take k))) ∧ Below W9.heap.size W9 wr) (fun _ t45 _ => n - (intOf t45).toNat)
            case atStart => exact ⟨0, rfl, by omega, by rw [CAT.out]; simp [flat], Below.refl _ _⟩
            case round =>
              obtain ⟨k, rfl, hk, rfl, hq⟩ := hrel
              have HQ1 := hidp hq
              have hsz := hidp hq.size
              clear hq
              by_cases hlt : k < n
              · obtain ⟨B, off, c', e1, _, hB, hrr⟩ := HP9.out.get (by rw [HN.out]; omega)
                simp only [Value.slice.injEq] at e1
                obtain ⟨rfl, -, -⟩ := e1
                have hkp' : k < p.length := by rw [HN.out]; exact hlt
                have hxl := hidp (HP9.out.1.get k hkp')
                have hrx := hidp (show wr.rangeAt B (off + 32 * k) (u8s p[k]) from rangeAt_below (range_nth hrr HP9.out.1 k hkp') HQ1.out hB)
                have htk := hidp (show flat (p.take k) ++ p[k] = flat (p.take (k + 1)) from by rw [List.take_succ_eq_append_getElem hkp', flat_snoc])
                obtain ⟨x, hx⟩ : ∃ x, p[k] = x := ⟨_, rfl⟩
                rw [hx] at hxl hrx htk
                have e1 : decide ((k : Int) < (n : Int)) = true := by simp; omega
                clear hx hkp' hrr
                obtain ⟨M1, hM1⟩ : ∃ M, mkS (([UInt8.ofNat m] ++ G.data.toList) ++ flat (p.take k)) = M := ⟨_, rfl⟩
                obtain ⟨M2, hM2⟩ : ∃ M, mkS x = M := ⟨_, rfl⟩
                have hM3 := hidp (show M1 ++ M2 = mkS (([UInt8.ofNat m] ++ G.data.toList) ++ flat (p.take (k + 1))) from by rw [← hM1, ← hM2, mkS_append, List.append_assoc, htk.out])
                have hns : ¬ 9223372036854775807 < M1.size + M2.size := by
                  rw [← hM1, ← hM2, mkS_size, mkS_size, hxl.out, List.length_append, flat_len (HP9.out.1.take k), List.length_append, List.length_take, size_toList, hGs.out]; simp; omega
                rw [hM1]
                have HM2 := hidp hM2
                clear hM1 hM2
                go_wp2_with (first | (refine wpL_idx rfl (.tmp 43) (.tmp 45) rfl B off _ _ k rfl rfl hlt ?_) | (refine wpL_at rfl (.tmp 47) rfl B (off + 32 * k) x rfl hxl.out hrx.out ?_) | (refine wpL_new rfl rfl ?_; intro b12 w12 n12) | (refine wpL_put rfl (.tmp 11) (.tmp 48) rfl b12 x rfl rfl hxl.out (u8s z32) rfl n12.arr ?_; intro w13 ha13 hp13; have hcv := str_conv w13 b12 x hxl.out ha13.range; rw [HM2.out] at hcv) | (refine wpL_slc rfl (.tmp 11) rfl b12 0 rfl ?_))
                exact ⟨⟨k + 1, by go_num, by omega, by rw [hM3.out], HQ1.out.trans ((n12.put hp13).mono hsz.out)⟩, by simp [intOf]; omega⟩
              · have e1 : decide ((k : Int) < (n : Int)) = false := by simp; omega
                have hkn : k = n := by omega
                have htk : p.take k = p := by rw [hkn, List.take_of_length_le (by rw [HN.out]; exact Nat.le_refl _)]
                rw [htk]
                have HG2 := hidp G2'.out
                obtain ⟨MS, hMS⟩ : ∃ s, mkS (([UInt8.ofNat m] ++ G.data.toList) ++ flat p) = s := ⟨_, rfl⟩
                rw [hMS] at HG2 ⊢
                clear htk hMS
                have HA1 := hidp (HA9.out.below HQ1.out HA9.out.lt); have HR1 := hidp (HR9.out.below HQ1.out HR9.out.lt); have HB1 := hidp (HB9.out.trans (HQ1.out.mono HB9.out.size))
                clear HA9 HR9 HB9
                obtain ⟨x0, x1, x2, xf⟩ := arr3k HA1.out
                have g0 := xf 0; have g1 := xf 1; have g2 := xf 2
                clear xf
                obtain ⟨y0, y1, y2, yf⟩ := arr3k HR1.out
                have f0 := yf 0; have f1 := yf 1; have f2 := yf 2
                clear yf
                have hne : b2 ≠ b4 := by have := h24.out; omega
                have hne' : b4 ≠ b2 := Ne.symm hne
                go_wp2_with fail
                clear x0 x1 x2 g0 g1 g2 y0 y1 y2 f0 f1 f2
                obtain ⟨w15, hw15, ha15, hp15⟩ := set1 HA1.out 2 (.int .i64 ((m : Int) + 1))
                rw [hw15]
                have HRa := hidp (hp15.arr (by have := h24.out; omega) HR1.out)
                obtain ⟨w16, hw16, ha16, hp16⟩ := set3 HRa.out (.string S) (.int .i64 (h : Int)) (.int .i64 ((m : Int) + 1))
                rw [hw16]
                have HBZ := hidp (hp16.below' (hp15.below' HB1.out h2w.out) (by have := h2w.out; have := h24.out; omega))
                obtain ⟨y0, y1, y2, -⟩ := arr3k ha16
                refine bodyPost_ret (v := .tuple #[.agg #[.string S, .int .i64 (h : Int), .int .i64 ((m : Int) + 1)], .string MS, .int .i64 0]) (by simp [results, Tryd.results15, go_sem, y0, y1, y2]) rfl ⟨by rw [G1.out, HG2.out, G3.out], HBZ.out⟩
          · apply o_call (f := 53) (args := #[.string sd, .string t]) (v := .string G) (hc := cg.out _)
            case ho => rfl
            case hw => rfl
            case hop => go_simp; first | done | rfl
            rintro X6 hb
            have HQ6 := hidp (HQ4.out.trans (hb.mono (by have := HQ4.out.size; have := HB0.out; omega)))
            refine ⟨HA.out.below HQ6.out h2B.out, ?_⟩
            have HC6 := hidp (HC4.out.below hb HC4.out.lt)
            clear hb
            simp only [Act.put, List.getElem_toArray, List.getElem_cons_zero, List.getElem_cons_succ, List.setIfInBounds_toArray, List.set_cons_zero, List.set_cons_succ]
            refine o_make (v := .string C1) (W := X6) rfl rfl ?_ (HA.out.below HQ6.out h2B.out) ?_
            · have hc := conv1 X6 _ m (by omega) (HC6.out.cell 0 (by simp))
              rw [hC1] at hc
              go_simp
            simp only [Act.put, List.getElem_toArray, List.getElem_cons_zero, List.getElem_cons_succ, List.setIfInBounds_toArray, List.set_cons_zero, List.set_cons_succ]
            apply s_val
            case ho => rfl
            case hw => rfl
            case hv => intro w hw; go_simp; first | done | with_reducible rfl | rfl
            simp only [Act.put, List.getElem_toArray, List.getElem_cons_zero, List.getElem_cons_succ, List.setIfInBounds_toArray, List.set_cons_zero, List.set_cons_succ]
            apply s_val
            case ho => rfl
            case hw => rfl
            case hv => intro w hw; go_simp; first | done | with_reducible rfl | rfl
            simp only [Act.put, List.getElem_toArray, List.getElem_cons_zero, List.getElem_cons_succ, List.setIfInBounds_toArray, List.set_cons_zero, List.set_cons_succ]
            refine NoPanic.normal ?_
            have HA6 := hidp (HA.out.below HQ6.out h2B.out); have HR6 := hidp (HR.out.below HQ6.out h4B.out); have HB6 := hidp (HB.out.trans (HQ6.out.mono hwB.out))
            go_wp2_with fail
            obtain ⟨U7, hU⟩ : ∃ U, ({ X6 with drawn := X6.drawn + 1 } : World) = U := ⟨_, rfl⟩
            have bU : Below X6.heap.size X6 U7 := by rw [← hU]; exact (Below.refl _ _).drew
            have HA7 := hidp (HA6.out.below bU HA6.out.lt); have HR7 := hidp (HR6.out.below bU HR6.out.lt); have HB7 := hidp (HB6.out.trans (bU.mono HB6.out.size))
            clear bU HA6 HR6 HB6 HA HR HB HQ0
            refine wp_region_noPanic ?_
            refine wp_region_scr (S := fun W => Arr W b2 23 [.string S, .int .i64 (h : Int), .int .i64 (m : Int)]) (.take 0 (.take 2 (.take 3 (.one 1 (.one 4 (.take 5 (.take 6 (.take 7 (.take 8 (.take 9 .done)))))))))) (by kernel_rfl) (by kernel_rfl) (fun _ _ _ _ _ h => h) (by simp [Scr.depth]) (by kernel_rfl) (by rw [hU]; exact HA7.out) ?_
            simp only [hU]
            clear hU
            apply s_val
            case ho => rfl
            case hw => rfl
            case hv => intro w hw; obtain ⟨x0, x1, x2, -⟩ := arr3k hw; go_simp; first | done | with_reducible rfl | rfl
            simp only [Act.put, List.getElem_toArray, List.getElem_cons_zero, List.getElem_cons_succ, List.setIfInBounds_toArray, List.set_cons_zero, List.set_cons_succ]
            apply s_val
            case ho => rfl
            case hw => rfl
            case hv => intro w hw; obtain ⟨x0, x1, x2, -⟩ := arr3k hw; go_simp; first | done | with_reducible rfl | rfl
            simp only [Act.put, List.getElem_toArray, List.getElem_cons_zero, List.getElem_cons_succ, List.setIfInBounds_toArray, List.set_cons_zero, List.set_cons_succ]
            apply s_val
            case ho => rfl
            case hw => rfl
            case hv => intro w hw; obtain ⟨x0, x1, x2, -⟩ := arr3k hw; go_simp; first | done | with_reducible rfl | rfl
            simp only [Act.put, List.getElem_toArray, List.getElem_cons_zero, List.getElem_cons_succ, List.setIfInBounds_toArray, List.set_cons_zero, List.set_cons_succ]
            apply o_callE (f := 46) (args := #[.agg #[.string S, .int .i64 (h : Int), .int .i64 (m : Int)]]) (hc := cp.out _)
            case ho => rfl
            case hw => rfl
            case hop => go_simp; first | done | rfl
            rintro vL W8 ⟨hv, hb⟩
            refine ⟨HA7.out.below hb HA7.out.lt, ?_⟩
            have HA8 := hidp (HA7.out.below hb HA7.out.lt); have HR8 := hidp (HR7.out.below hb HR7.out.lt); have HB8 := hidp (HB7.out.trans (hb.mono HB7.out.size)); have HV8 := hidp hv
            clear hb hv HA7 HR7 HB7
            simp only [Act.put, List.getElem_toArray, List.getElem_cons_zero, List.getElem_cons_succ, List.setIfInBounds_toArray, List.set_cons_zero, List.set_cons_succ]
            apply o_callP (f := 55) (args := #[vL, .int .i64 (m : Int)]) (hc := ct.out _ _ HV8.out.hs)
            case ho => rfl
            case hw => rfl
            case hop => go_simp; first | done | rfl
            rintro vp W9 ⟨hv, hb⟩
            refine ⟨HA8.out.below hb HA8.out.lt, ?_⟩
            have HA9 := hidp (HA8.out.below hb HA8.out.lt); have HR9 := hidp (HR8.out.below hb HR8.out.lt); have HB9 := hidp (HB8.out.trans (hb.mono HB8.out.size)); have HP9 := hidp hv.hs
            clear hb hv HA8 HR8 HB8 HV8
            obtain ⟨ap, cp', rfl⟩ := HP9.out.form
            rw [HN.out] at HP9 ⊢
            simp only [Act.put, List.getElem_toArray, List.getElem_cons_zero, List.getElem_cons_succ, List.setIfInBounds_toArray, List.set_cons_zero, List.set_cons_succ]
            apply s_val
            case ho => rfl
            case hw => rfl
            case hv => intro w hw; go_simp; first | done | with_reducible rfl | rfl
            simp only [Act.put, List.getElem_toArray, List.getElem_cons_zero, List.getElem_cons_succ, List.setIfInBounds_toArray, List.set_cons_zero, List.set_cons_succ]
            apply s_val
            case ho => rfl
            case hw => rfl
            case hv => intro w hw; go_simp; first | done | with_reducible rfl | rfl
            simp only [Act.put, List.getElem_toArray, List.getElem_cons_zero, List.getElem_cons_succ, List.setIfInBounds_toArray, List.set_cons_zero, List.set_cons_succ]
            apply s_val
            case ho => rfl
            case hw => rfl
            case hv => intro w hw; go_simp; first | done | with_reducible rfl | rfl
            simp only [Act.put, List.getElem_toArray, List.getElem_cons_zero, List.getElem_cons_succ, List.setIfInBounds_toArray, List.set_cons_zero, List.set_cons_succ]
            apply s_val
            case ho => rfl
            case hw => rfl
            case hv => intro w hw; go_simp; first | done | with_reducible rfl | rfl
            simp only [Act.put, List.getElem_toArray, List.getElem_cons_zero, List.getElem_cons_succ, List.setIfInBounds_toArray, List.set_cons_zero, List.set_cons_succ]
            apply s_val
            case ho => rfl
            case hw => rfl
            case hv => intro w hw; go_simp; first | done | with_reducible rfl | rfl
            simp only [Act.put, List.getElem_toArray, List.getElem_cons_zero, List.getElem_cons_succ, List.setIfInBounds_toArray, List.set_cons_zero, List.set_cons_succ]
            refine NoPanic.normal ?_
            have hcat := CAT.out
            go_wp2_with fail
            clear hcat
            go_loopw [7, 45] (fun t7 t45 wr => ∃ k : Nat, t45 = .int .i64 (k : Int) ∧ k ≤ n ∧ t7 = .string (mkS (([UInt8.ofNat m] ++ G.data.toList) ++ flat (p.take k))) ∧ Below W9.heap.size W9 wr) (fun _ t45 _ => n - (intOf t45).toNat)
            case atStart => exact ⟨0, rfl, by omega, by rw [CAT.out]; simp [flat], Below.refl _ _⟩
            case round =>
              obtain ⟨k, rfl, hk, rfl, hq⟩ := hrel
              have HQ1 := hidp hq
              have hsz := hidp hq.size
              clear hq
              by_cases hlt : k < n
              · obtain ⟨B, off, c', e1, _, hB, hrr⟩ := HP9.out.get (by rw [HN.out]; omega)
                simp only [Value.slice.injEq] at e1
                obtain ⟨rfl, -, -⟩ := e1
                have hkp' : k < p.length := by rw [HN.out]; exact hlt
                have hxl := hidp (HP9.out.1.get k hkp')
                have hrx := hidp (show wr.rangeAt B (off + 32 * k) (u8s p[k]) from rangeAt_below (range_nth hrr HP9.out.1 k hkp') HQ1.out hB)
                have htk := hidp (show flat (p.take k) ++ p[k] = flat (p.take (k + 1)) from by rw [List.take_succ_eq_append_getElem hkp', flat_snoc])
                obtain ⟨x, hx⟩ : ∃ x, p[k] = x := ⟨_, rfl⟩
                rw [hx] at hxl hrx htk
                have e1 : decide ((k : Int) < (n : Int)) = true := by simp; omega
                clear hx hkp' hrr
                obtain ⟨M1, hM1⟩ : ∃ M, mkS (([UInt8.ofNat m] ++ G.data.toList) ++ flat (p.take k)) = M := ⟨_, rfl⟩
                obtain ⟨M2, hM2⟩ : ∃ M, mkS x = M := ⟨_, rfl⟩
                have hM3 := hidp (show M1 ++ M2 = mkS (([UInt8.ofNat m] ++ G.data.toList) ++ flat (p.take (k + 1))) from by rw [← hM1, ← hM2, mkS_append, List.append_assoc, htk.out])
                have hns : ¬ 9223372036854775807 < M1.size + M2.size := by
                  rw [← hM1, ← hM2, mkS_size, mkS_size, hxl.out, List.length_append, flat_len (HP9.out.1.take k), List.length_append, List.length_take, size_toList, hGs.out]; simp; omega
                rw [hM1]
                have HM2 := hidp hM2
                clear hM1 hM2
                go_wp2_with (first | (refine wpL_idx rfl (.tmp 43) (.tmp 45) rfl B off _ _ k rfl rfl hlt ?_) | (refine wpL_at rfl (.tmp 47) rfl B (off + 32 * k) x rfl hxl.out hrx.out ?_) | (refine wpL_new rfl rfl ?_; intro b12 w12 n12) | (refine wpL_put rfl (.tmp 11) (.tmp 48) rfl b12 x rfl rfl hxl.out (u8s z32) rfl n12.arr ?_; intro w13 ha13 hp13; have hcv := str_conv w13 b12 x hxl.out ha13.range; rw [HM2.out] at hcv) | (refine wpL_slc rfl (.tmp 11) rfl b12 0 rfl ?_))
                exact ⟨⟨k + 1, by go_num, by omega, by rw [hM3.out], HQ1.out.trans ((n12.put hp13).mono hsz.out)⟩, by simp [intOf]; omega⟩
              · have e1 : decide ((k : Int) < (n : Int)) = false := by simp; omega
                have hkn : k = n := by omega
                have htk : p.take k = p := by rw [hkn, List.take_of_length_le (by rw [HN.out]; exact Nat.le_refl _)]
                rw [htk]
                have HG2 := hidp G2'.out
                obtain ⟨MS, hMS⟩ : ∃ s, mkS (([UInt8.ofNat m] ++ G.data.toList) ++ flat p) = s := ⟨_, rfl⟩
                rw [hMS] at HG2 ⊢
                clear htk hMS
                have HA1 := hidp (HA9.out.below HQ1.out HA9.out.lt); have HR1 := hidp (HR9.out.below HQ1.out HR9.out.lt); have HB1 := hidp (HB9.out.trans (HQ1.out.mono HB9.out.size))
                clear HA9 HR9 HB9
                obtain ⟨x0, x1, x2, xf⟩ := arr3k HA1.out
                have g0 := xf 0; have g1 := xf 1; have g2 := xf 2
                clear xf
                obtain ⟨y0, y1, y2, yf⟩ := arr3k HR1.out
                have f0 := yf 0; have f1 := yf 1; have f2 := yf 2
                clear yf
                have hne : b2 ≠ b4 := by have := h24.out; omega
                have hne' : b4 ≠ b2 := Ne.symm hne
                go_wp2_with fail
                clear x0 x1 x2 g0 g1 g2 y0 y1 y2 f0 f1 f2
                obtain ⟨w15, hw15, ha15, hp15⟩ := set1 HA1.out 2 (.int .i64 ((m : Int) + 1))
                rw [hw15]
                have HRa := hidp (hp15.arr (by have := h24.out; omega) HR1.out)
                obtain ⟨w16, hw16, ha16, hp16⟩ := set3 HRa.out (.string S) (.int .i64 (h : Int)) (.int .i64 ((m : Int) + 1))
                rw [hw16]
                have HBZ := hidp (hp16.below' (hp15.below' HB1.out h2w.out) (by have := h2w.out; have := h24.out; omega))
                obtain ⟨y0, y1, y2, -⟩ := arr3k ha16
                refine bodyPost_ret (v := .tuple #[.agg #[.string S, .int .i64 (h : Int), .int .i64 ((m : Int) + 1)], .string MS, .int .i64 0]) (by simp [results, Tryd.results15, go_sem, y0, y1, y2]) rfl ⟨by rw [G1.out, HG2.out, G3.out], HBZ.out⟩
      · apply o_call (f := 54) (args := #[.agg #[.string S, .int .i64 (h : Int), .int .i64 (m : Int)], .int .i64 (m : Int)]) (v := .string sd) (hc := cs.out _)
        case ho => rfl
        case hw => rfl
        case hop => go_simp; first | done | rfl
        rintro X7 hb
        have HQ7 := hidp (HQ0.out.trans (hb.mono (by have := HQ0.out.size; have := HB0.out; omega)))
        refine ⟨HA.out.below HQ7.out h2B.out, ?_⟩
        clear hb
        simp only [Act.put, List.getElem_toArray, List.getElem_cons_zero, List.getElem_cons_succ, List.setIfInBounds_toArray, List.set_cons_zero, List.set_cons_succ]
        refine ⟨?_, ?_⟩
        · refine o_make (v := .slice (some ⟨X7.heap.size, 0, none⟩) 1 1) (W := X7.alloc (.cells #[.int .u8 (m : Int)] 5)) rfl rfl (by go_simp; first | done | rfl) ?_ ?_
          · exact (HA.out.below HQ7.out h2B.out).alloc _
          obtain ⟨X8, hX⟩ : ∃ X, X7.alloc (.cells #[.int .u8 (m : Int)] 5) = X := ⟨_, rfl⟩
          have HC8 := hidp (show Arr X8 X7.heap.size 5 [.int .u8 (m : Int)] from by rw [← hX]; exact Arr.new _ _ _)
          have HQ8 := hidp (show Below B0 U X8 from by rw [← hX]; exact HQ7.out.alloc (by have := HQ7.out.size; have := HB0.out; omega) _)
          rw [hX]
          clear hX
          simp only [Act.put, List.getElem_toArray, List.getElem_cons_zero, List.getElem_cons_succ, List.setIfInBounds_toArray, List.set_cons_zero, List.set_cons_succ]
          refine ⟨?_, ?_⟩
          · refine o_make (v := .string C1) (W := X8) rfl rfl ?_ (HA.out.below HQ8.out h2B.out) ?_
            · have hc := conv1 X8 _ m (by omega) (HC8.out.cell 0 (by simp))
              rw [hC1] at hc
              go_simp
            simp only [Act.put, List.getElem_toArray, List.getElem_cons_zero, List.getElem_cons_succ, List.setIfInBounds_toArray, List.set_cons_zero, List.set_cons_succ]
            apply o_call (f := 53) (args := #[.string sd, .string t]) (v := .string G) (hc := cg.out _)
            case ho => rfl
            case hw => rfl
            case hop => go_simp; first | done | rfl
            rintro X9 hb
            have HQ9 := hidp (HQ8.out.trans (hb.mono (by have := HQ8.out.size; have := HB0.out; omega)))
            refine ⟨HA.out.below HQ9.out h2B.out, ?_⟩
            have HC9 := hidp (HC8.out.below hb HC8.out.lt)
            clear hb
            simp only [Act.put, List.getElem_toArray, List.getElem_cons_zero, List.getElem_cons_succ, List.setIfInBounds_toArray, List.set_cons_zero, List.set_cons_succ]
            apply s_val
            case ho => rfl
            case hw => rfl
            case hv => intro w hw; go_simp; first | done | with_reducible rfl | rfl
            simp only [Act.put, List.getElem_toArray, List.getElem_cons_zero, List.getElem_cons_succ, List.setIfInBounds_toArray, List.set_cons_zero, List.set_cons_succ]
            apply s_val
            case ho => rfl
            case hw => rfl
            case hv => intro w hw; go_simp; first | done | with_reducible rfl | rfl
            simp only [Act.put, List.getElem_toArray, List.getElem_cons_zero, List.getElem_cons_succ, List.setIfInBounds_toArray, List.set_cons_zero, List.set_cons_succ]
            refine NoPanic.normal ?_
            have HA6 := hidp (HA.out.below HQ9.out h2B.out); have HR6 := hidp (HR.out.below HQ9.out h4B.out); have HB6 := hidp (HB.out.trans (HQ9.out.mono hwB.out))
            go_wp2_with fail
            obtain ⟨U7, hU⟩ : ∃ U, ({ X9 with drawn := X9.drawn + 1 } : World) = U := ⟨_, rfl⟩
            have bU : Below X9.heap.size X9 U7 := by rw [← hU]; exact (Below.refl _ _).drew
            have HA7 := hidp (HA6.out.below bU HA6.out.lt); have HR7 := hidp (HR6.out.below bU HR6.out.lt); have HB7 := hidp (HB6.out.trans (bU.mono HB6.out.size))
            clear bU HA6 HR6 HB6 HA HR HB HQ0
            refine wp_region_noPanic ?_
            refine wp_region_scr (S := fun W => Arr W b2 23 [.string S, .int .i64 (h : Int), .int .i64 (m : Int)]) (.take 0 (.take 2 (.take 3 (.one 1 (.one 4 (.take 5 (.take 6 (.take 7 (.take 8 (.take 9 .done)))))))))) (by kernel_rfl) (by kernel_rfl) (fun _ _ _ _ _ h => h) (by simp [Scr.depth]) (by kernel_rfl) (by rw [hU]; exact HA7.out) ?_
            simp only [hU]
            clear hU
            apply s_val
            case ho => rfl
            case hw => rfl
            case hv => intro w hw; obtain ⟨x0, x1, x2, -⟩ := arr3k hw; go_simp; first | done | with_reducible rfl | rfl
            simp only [Act.put, List.getElem_toArray, List.getElem_cons_zero, List.getElem_cons_succ, List.setIfInBounds_toArray, List.set_cons_zero, List.set_cons_succ]
            apply s_val
            case ho => rfl
            case hw => rfl
            case hv => intro w hw; obtain ⟨x0, x1, x2, -⟩ := arr3k hw; go_simp; first | done | with_reducible rfl | rfl
            simp only [Act.put, List.getElem_toArray, List.getElem_cons_zero, List.getElem_cons_succ, List.setIfInBounds_toArray, List.set_cons_zero, List.set_cons_succ]
            apply s_val
            case ho => rfl
            case hw => rfl
            case hv => intro w hw; obtain ⟨x0, x1, x2, -⟩ := arr3k hw; go_simp; first | done | with_reducible rfl | rfl
            simp only [Act.put, List.getElem_toArray, List.getElem_cons_zero, List.getElem_cons_succ, List.setIfInBounds_toArray, List.set_cons_zero, List.set_cons_succ]
            apply o_callE (f := 46) (args := #[.agg #[.string S, .int .i64 (h : Int), .int .i64 (m : Int)]]) (hc := cp.out _)
            case ho => rfl
            case hw => rfl
            case hop => go_simp; first | done | rfl
            rintro vL W8 ⟨hv, hb⟩
            refine ⟨HA7.out.below hb HA7.out.lt, ?_⟩
            have HA8 := hidp (HA7.out.below hb HA7.out.lt); have HR8 := hidp (HR7.out.below hb HR7.out.lt); have HB8 := hidp (HB7.out.trans (hb.mono HB7.out.size)); have HV8 := hidp hv
            clear hb hv HA7 HR7 HB7
            simp only [Act.put, List.getElem_toArray, List.getElem_cons_zero, List.getElem_cons_succ, List.setIfInBounds_toArray, List.set_cons_zero, List.set_cons_succ]
            apply o_callP (f := 55) (args := #[vL, .int .i64 (m : Int)]) (hc := ct.out _ _ HV8.out.hs)
            case ho => rfl
            case hw => rfl
            case hop => go_simp; first | done | rfl
            rintro vp W9 ⟨hv, hb⟩
            refine ⟨HA8.out.below hb HA8.out.lt, ?_⟩
            have HA9 := hidp (HA8.out.below hb HA8.out.lt); have HR9 := hidp (HR8.out.below hb HR8.out.lt); have HB9 := hidp (HB8.out.trans (hb.mono HB8.out.size)); have HP9 := hidp hv.hs
            clear hb hv HA8 HR8 HB8 HV8
            obtain ⟨ap, cp', rfl⟩ := HP9.out.form
            rw [HN.out] at HP9 ⊢
            simp only [Act.put, List.getElem_toArray, List.getElem_cons_zero, List.getElem_cons_succ, List.setIfInBounds_toArray, List.set_cons_zero, List.set_cons_succ]
            apply s_val
            case ho => rfl
            case hw => rfl
            case hv => intro w hw; go_simp; first | done | with_reducible rfl | rfl
            simp only [Act.put, List.getElem_toArray, List.getElem_cons_zero, List.getElem_cons_succ, List.setIfInBounds_toArray, List.set_cons_zero, List.set_cons_succ]
            apply s_val
            case ho => rfl
            case hw => rfl
            case hv => intro w hw; go_simp; first | done | with_reducible rfl | rfl
            simp only [Act.put, List.getElem_toArray, List.getElem_cons_zero, List.getElem_cons_succ, List.setIfInBounds_toArray, List.set_cons_zero, List.set_cons_succ]
            apply s_val
            case ho => rfl
            case hw => rfl
            case hv => intro w hw; go_simp; first | done | with_reducible rfl | rfl
            simp only [Act.put, List.getElem_toArray, List.getElem_cons_zero, List.getElem_cons_succ, List.setIfInBounds_toArray, List.set_cons_zero, List.set_cons_succ]
            apply s_val
            case ho => rfl
            case hw => rfl
            case hv => intro w hw; go_simp; first | done | with_reducible rfl | rfl
            simp only [Act.put, List.getElem_toArray, List.getElem_cons_zero, List.getElem_cons_succ, List.setIfInBounds_toArray, List.set_cons_zero, List.set_cons_succ]
            apply s_val
            case ho => rfl
            case hw => rfl
            case hv => intro w hw; go_simp; first | done | with_reducible rfl | rfl
            simp only [Act.put, List.getElem_toArray, List.getElem_cons_zero, List.getElem_cons_succ, List.setIfInBounds_toArray, List.set_cons_zero, List.set_cons_succ]
            refine NoPanic.normal ?_
            have hcat := CAT.out
            go_wp2_with fail
            clear hcat
            go_loopw [7, 45] (fun t7 t45 wr => ∃ k : Nat, t45 = .int .i64 (k : Int) ∧ k ≤ n ∧ t7 = .string (mkS (([UInt8.ofNat m] ++ G.data.toList) ++ flat (p.take k))) ∧ Below W9.heap.size W9 wr) (fun _ t45 _ => n - (intOf t45).toNat)
            case atStart => exact ⟨0, rfl, by omega, by rw [CAT.out]; simp [flat], Below.refl _ _⟩
            case round =>
              obtain ⟨k, rfl, hk, rfl, hq⟩ := hrel
              have HQ1 := hidp hq
              have hsz := hidp hq.size
              clear hq
              by_cases hlt : k < n
              · obtain ⟨B, off, c', e1, _, hB, hrr⟩ := HP9.out.get (by rw [HN.out]; omega)
                simp only [Value.slice.injEq] at e1
                obtain ⟨rfl, -, -⟩ := e1
                have hkp' : k < p.length := by rw [HN.out]; exact hlt
                have hxl := hidp (HP9.out.1.get k hkp')
                have hrx := hidp (show wr.rangeAt B (off + 32 * k) (u8s p[k]) from rangeAt_below (range_nth hrr HP9.out.1 k hkp') HQ1.out hB)
                have htk := hidp (show flat (p.take k) ++ p[k] = flat (p.take (k + 1)) from by rw [List.take_succ_eq_append_getElem hkp', flat_snoc])
                obtain ⟨x, hx⟩ : ∃ x, p[k] = x := ⟨_, rfl⟩
                rw [hx] at hxl hrx htk
                have e1 : decide ((k : Int) < (n : Int)) = true := by simp; omega
                clear hx hkp' hrr
                obtain ⟨M1, hM1⟩ : ∃ M, mkS (([UInt8.ofNat m] ++ G.data.toList) ++ flat (p.take k)) = M := ⟨_, rfl⟩
                obtain ⟨M2, hM2⟩ : ∃ M, mkS x = M := ⟨_, rfl⟩
                have hM3 := hidp (show M1 ++ M2 = mkS (([UInt8.ofNat m] ++ G.data.toList) ++ flat (p.take (k + 1))) from by rw [← hM1, ← hM2, mkS_append, List.append_assoc, htk.out])
                have hns : ¬ 9223372036854775807 < M1.size + M2.size := by
                  rw [← hM1, ← hM2, mkS_size, mkS_size, hxl.out, List.length_append, flat_len (HP9.out.1.take k), List.length_append, List.length_take, size_toList, hGs.out]; simp; omega
                rw [hM1]
                have HM2 := hidp hM2
                clear hM1 hM2
                go_wp2_with (first | (refine wpL_idx rfl (.tmp 43) (.tmp 45) rfl B off _ _ k rfl rfl hlt ?_) | (refine wpL_at rfl (.tmp 47) rfl B (off + 32 * k) x rfl hxl.out hrx.out ?_) | (refine wpL_new rfl rfl ?_; intro b12 w12 n12) | (refine wpL_put rfl (.tmp 11) (.tmp 48) rfl b12 x rfl rfl hxl.out (u8s z32) rfl n12.arr ?_; intro w13 ha13 hp13; have hcv := str_conv w13 b12 x hxl.out ha13.range; rw [HM2.out] at hcv) | (refine wpL_slc rfl (.tmp 11) rfl b12 0 rfl ?_))
                exact ⟨⟨k + 1, by go_num, by omega, by rw [hM3.out], HQ1.out.trans ((n12.put hp13).mono hsz.out)⟩, by simp [intOf]; omega⟩
              · have e1 : decide ((k : Int) < (n : Int)) = false := by simp; omega
                have hkn : k = n := by omega
                have htk : p.take k = p := by rw [hkn, List.take_of_length_le (by rw [HN.out]; exact Nat.le_refl _)]
                rw [htk]
                have HG2 := hidp G2'.out
                obtain ⟨MS, hMS⟩ : ∃ s, mkS (([UInt8.ofNat m] ++ G.data.toList) ++ flat p) = s := ⟨_, rfl⟩
                rw [hMS] at HG2 ⊢
                clear htk hMS
                have HA1 := hidp (HA9.out.below HQ1.out HA9.out.lt); have HR1 := hidp (HR9.out.below HQ1.out HR9.out.lt); have HB1 := hidp (HB9.out.trans (HQ1.out.mono HB9.out.size))
                clear HA9 HR9 HB9
                obtain ⟨x0, x1, x2, xf⟩ := arr3k HA1.out
                have g0 := xf 0; have g1 := xf 1; have g2 := xf 2
                clear xf
                obtain ⟨y0, y1, y2, yf⟩ := arr3k HR1.out
                have f0 := yf 0; have f1 := yf 1; have f2 := yf 2
                clear yf
                have hne : b2 ≠ b4 := by have := h24.out; omega
                have hne' : b4 ≠ b2 := Ne.symm hne
                go_wp2_with fail
                clear x0 x1 x2 g0 g1 g2 y0 y1 y2 f0 f1 f2
                obtain ⟨w15, hw15, ha15, hp15⟩ := set1 HA1.out 2 (.int .i64 ((m : Int) + 1))
                rw [hw15]
                have HRa := hidp (hp15.arr (by have := h24.out; omega) HR1.out)
                obtain ⟨w16, hw16, ha16, hp16⟩ := set3 HRa.out (.string S) (.int .i64 (h : Int)) (.int .i64 ((m : Int) + 1))
                rw [hw16]
                have HBZ := hidp (hp16.below' (hp15.below' HB1.out h2w.out) (by have := h2w.out; have := h24.out; omega))
                obtain ⟨y0, y1, y2, -⟩ := arr3k ha16
                refine bodyPost_ret (v := .tuple #[.agg #[.string S, .int .i64 (h : Int), .int .i64 ((m : Int) + 1)], .string MS, .int .i64 0]) (by simp [results, Tryd.results15, go_sem, y0, y1, y2]) rfl ⟨by rw [G1.out, HG2.out, G3.out], HBZ.out⟩
          · apply o_call (f := 53) (args := #[.string sd, .string t]) (v := .string G) (hc := cg.out _)
            case ho => rfl
            case hw => rfl
            case hop => go_simp; first | done | rfl
            rintro X10 hb
            have HQ10 := hidp (HQ8.out.trans (hb.mono (by have := HQ8.out.size; have := HB0.out; omega)))
            refine ⟨HA.out.below HQ10.out h2B.out, ?_⟩
            have HC10 := hidp (HC8.out.below hb HC8.out.lt)
            clear hb
            simp only [Act.put, List.getElem_toArray, List.getElem_cons_zero, List.getElem_cons_succ, List.setIfInBounds_toArray, List.set_cons_zero, List.set_cons_succ]
            refine o_make (v := .string C1) (W := X10) rfl rfl ?_ (HA.out.below HQ10.out h2B.out) ?_
            · have hc := conv1 X10 _ m (by omega) (HC10.out.cell 0 (by simp))
              rw [hC1] at hc
              go_simp
            simp only [Act.put, List.getElem_toArray, List.getElem_cons_zero, List.getElem_cons_succ, List.setIfInBounds_toArray, List.set_cons_zero, List.set_cons_succ]
            apply s_val
            case ho => rfl
            case hw => rfl
            case hv => intro w hw; go_simp; first | done | with_reducible rfl | rfl
            simp only [Act.put, List.getElem_toArray, List.getElem_cons_zero, List.getElem_cons_succ, List.setIfInBounds_toArray, List.set_cons_zero, List.set_cons_succ]
            apply s_val
            case ho => rfl
            case hw => rfl
            case hv => intro w hw; go_simp; first | done | with_reducible rfl | rfl
            simp only [Act.put, List.getElem_toArray, List.getElem_cons_zero, List.getElem_cons_succ, List.setIfInBounds_toArray, List.set_cons_zero, List.set_cons_succ]
            refine NoPanic.normal ?_
            have HA6 := hidp (HA.out.below HQ10.out h2B.out); have HR6 := hidp (HR.out.below HQ10.out h4B.out); have HB6 := hidp (HB.out.trans (HQ10.out.mono hwB.out))
            go_wp2_with fail
            obtain ⟨U7, hU⟩ : ∃ U, ({ X10 with drawn := X10.drawn + 1 } : World) = U := ⟨_, rfl⟩
            have bU : Below X10.heap.size X10 U7 := by rw [← hU]; exact (Below.refl _ _).drew
            have HA7 := hidp (HA6.out.below bU HA6.out.lt); have HR7 := hidp (HR6.out.below bU HR6.out.lt); have HB7 := hidp (HB6.out.trans (bU.mono HB6.out.size))
            clear bU HA6 HR6 HB6 HA HR HB HQ0
            refine wp_region_noPanic ?_
            refine wp_region_scr (S := fun W => Arr W b2 23 [.string S, .int .i64 (h : Int), .int .i64 (m : Int)]) (.take 0 (.take 2 (.take 3 (.one 1 (.one 4 (.take 5 (.take 6 (.take 7 (.take 8 (.take 9 .done)))))))))) (by kernel_rfl) (by kernel_rfl) (fun _ _ _ _ _ h => h) (by simp [Scr.depth]) (by kernel_rfl) (by rw [hU]; exact HA7.out) ?_
            simp only [hU]
            clear hU
            apply s_val
            case ho => rfl
            case hw => rfl
            case hv => intro w hw; obtain ⟨x0, x1, x2, -⟩ := arr3k hw; go_simp; first | done | with_reducible rfl | rfl
            simp only [Act.put, List.getElem_toArray, List.getElem_cons_zero, List.getElem_cons_succ, List.setIfInBounds_toArray, List.set_cons_zero, List.set_cons_succ]
            apply s_val
            case ho => rfl
            case hw => rfl
            case hv => intro w hw; obtain ⟨x0, x1, x2, -⟩ := arr3k hw; go_simp; first | done | with_reducible rfl | rfl
            simp only [Act.put, List.getElem_toArray, List.getElem_cons_zero, List.getElem_cons_succ, List.setIfInBounds_toArray, List.set_cons_zero, List.set_cons_succ]
            apply s_val
            case ho => rfl
            case hw => rfl
            case hv => intro w hw; obtain ⟨x0, x1, x2, -⟩ := arr3k hw; go_simp; first | done | with_reducible rfl | rfl
            simp only [Act.put, List.getElem_toArray, List.getElem_cons_zero, List.getElem_cons_succ, List.setIfInBounds_toArray, List.set_cons_zero, List.set_cons_succ]
            apply o_callE (f := 46) (args := #[.agg #[.string S, .int .i64 (h : Int), .int .i64 (m : Int)]]) (hc := cp.out _)
            case ho => rfl
            case hw => rfl
            case hop => go_simp; first | done | rfl
            rintro vL W8 ⟨hv, hb⟩
            refine ⟨HA7.out.below hb HA7.out.lt, ?_⟩
            have HA8 := hidp (HA7.out.below hb HA7.out.lt); have HR8 := hidp (HR7.out.below hb HR7.out.lt); have HB8 := hidp (HB7.out.trans (hb.mono HB7.out.size)); have HV8 := hidp hv
            clear hb hv HA7 HR7 HB7
            simp only [Act.put, List.getElem_toArray, List.getElem_cons_zero, List.getElem_cons_succ, List.setIfInBounds_toArray, List.set_cons_zero, List.set_cons_succ]
            apply o_callP (f := 55) (args := #[vL, .int .i64 (m : Int)]) (hc := ct.out _ _ HV8.out.hs)
            case ho => rfl
            case hw => rfl
            case hop => go_simp; first | done | rfl
            rintro vp W9 ⟨hv, hb⟩
            refine ⟨HA8.out.below hb HA8.out.lt, ?_⟩
            have HA9 := hidp (HA8.out.below hb HA8.out.lt); have HR9 := hidp (HR8.out.below hb HR8.out.lt); have HB9 := hidp (HB8.out.trans (hb.mono HB8.out.size)); have HP9 := hidp hv.hs
            clear hb hv HA8 HR8 HB8 HV8
            obtain ⟨ap, cp', rfl⟩ := HP9.out.form
            rw [HN.out] at HP9 ⊢
            simp only [Act.put, List.getElem_toArray, List.getElem_cons_zero, List.getElem_cons_succ, List.setIfInBounds_toArray, List.set_cons_zero, List.set_cons_succ]
            apply s_val
            case ho => rfl
            case hw => rfl
            case hv => intro w hw; go_simp; first | done | with_reducible rfl | rfl
            simp only [Act.put, List.getElem_toArray, List.getElem_cons_zero, List.getElem_cons_succ, List.setIfInBounds_toArray, List.set_cons_zero, List.set_cons_succ]
            apply s_val
            case ho => rfl
            case hw => rfl
            case hv => intro w hw; go_simp; first | done | with_reducible rfl | rfl
            simp only [Act.put, List.getElem_toArray, List.getElem_cons_zero, List.getElem_cons_succ, List.setIfInBounds_toArray, List.set_cons_zero, List.set_cons_succ]
            apply s_val
            case ho => rfl
            case hw => rfl
            case hv => intro w hw; go_simp; first | done | with_reducible rfl | rfl
            simp only [Act.put, List.getElem_toArray, List.getElem_cons_zero, List.getElem_cons_succ, List.setIfInBounds_toArray, List.set_cons_zero, List.set_cons_succ]
            apply s_val
            case ho => rfl
            case hw => rfl
            case hv => intro w hw; go_simp; first | done | with_reducible rfl | rfl
            simp only [Act.put, List.getElem_toArray, List.getElem_cons_zero, List.getElem_cons_succ, List.setIfInBounds_toArray, List.set_cons_zero, List.set_cons_succ]
            apply s_val
            case ho => rfl
            case hw => rfl
            case hv => intro w hw; go_simp; first | done | with_reducible rfl | rfl
            simp only [Act.put, List.getElem_toArray, List.getElem_cons_zero, List.getElem_cons_succ, List.setIfInBounds_toArray, List.set_cons_zero, List.set_cons_succ]
            refine NoPanic.normal ?_
            have hcat := CAT.out
            go_wp2_with fail
            clear hcat
            go_loopw [7, 45] (fun t7 t45 wr => ∃ k : Nat, t45 = .int .i64 (k : Int) ∧ k ≤ n ∧ t7 = .string (mkS (([UInt8.ofNat m] ++ G.data.toList) ++ flat (p.take k))) ∧ Below W9.heap.size W9 wr) (fun _ t45 _ => n - (intOf t45).toNat)
            case atStart => exact ⟨0, rfl, by omega, by rw [CAT.out]; simp [flat], Below.refl _ _⟩
            case round =>
              obtain ⟨k, rfl, hk, rfl, hq⟩ := hrel
              have HQ1 := hidp hq
              have hsz := hidp hq.size
              clear hq
              by_cases hlt : k < n
              · obtain ⟨B, off, c', e1, _, hB, hrr⟩ := HP9.out.get (by rw [HN.out]; omega)
                simp only [Value.slice.injEq] at e1
                obtain ⟨rfl, -, -⟩ := e1
                have hkp' : k < p.length := by rw [HN.out]; exact hlt
                have hxl := hidp (HP9.out.1.get k hkp')
                have hrx := hidp (show wr.rangeAt B (off + 32 * k) (u8s p[k]) from rangeAt_below (range_nth hrr HP9.out.1 k hkp') HQ1.out hB)
                have htk := hidp (show flat (p.take k) ++ p[k] = flat (p.take (k + 1)) from by rw [List.take_succ_eq_append_getElem hkp', flat_snoc])
                obtain ⟨x, hx⟩ : ∃ x, p[k] = x := ⟨_, rfl⟩
                rw [hx] at hxl hrx htk
                have e1 : decide ((k : Int) < (n : Int)) = true := by simp; omega
                clear hx hkp' hrr
                obtain ⟨M1, hM1⟩ : ∃ M, mkS (([UInt8.ofNat m] ++ G.data.toList) ++ flat (p.take k)) = M := ⟨_, rfl⟩
                obtain ⟨M2, hM2⟩ : ∃ M, mkS x = M := ⟨_, rfl⟩
                have hM3 := hidp (show M1 ++ M2 = mkS (([UInt8.ofNat m] ++ G.data.toList) ++ flat (p.take (k + 1))) from by rw [← hM1, ← hM2, mkS_append, List.append_assoc, htk.out])
                have hns : ¬ 9223372036854775807 < M1.size + M2.size := by
                  rw [← hM1, ← hM2, mkS_size, mkS_size, hxl.out, List.length_append, flat_len (HP9.out.1.take k), List.length_append, List.length_take, size_toList, hGs.out]; simp; omega
                rw [hM1]
                have HM2 := hidp hM2
                clear hM1 hM2
                go_wp2_with (first | (refine wpL_idx rfl (.tmp 43) (.tmp 45) rfl B off _ _ k rfl rfl hlt ?_) | (refine wpL_at rfl (.tmp 47) rfl B (off + 32 * k) x rfl hxl.out hrx.out ?_) | (refine wpL_new rfl rfl ?_; intro b12 w12 n12) | (refine wpL_put rfl (.tmp 11) (.tmp 48) rfl b12 x rfl rfl hxl.out (u8s z32) rfl n12.arr ?_; intro w13 ha13 hp13; have hcv := str_conv w13 b12 x hxl.out ha13.range; rw [HM2.out] at hcv) | (refine wpL_slc rfl (.tmp 11) rfl b12 0 rfl ?_))
                exact ⟨⟨k + 1, by go_num, by omega, by rw [hM3.out], HQ1.out.trans ((n12.put hp13).mono hsz.out)⟩, by simp [intOf]; omega⟩
              · have e1 : decide ((k : Int) < (n : Int)) = false := by simp; omega
                have hkn : k = n := by omega
                have htk : p.take k = p := by rw [hkn, List.take_of_length_le (by rw [HN.out]; exact Nat.le_refl _)]
                rw [htk]
                have HG2 := hidp G2'.out
                obtain ⟨MS, hMS⟩ : ∃ s, mkS (([UInt8.ofNat m] ++ G.data.toList) ++ flat p) = s := ⟨_, rfl⟩
                rw [hMS] at HG2 ⊢
                clear htk hMS
                have HA1 := hidp (HA9.out.below HQ1.out HA9.out.lt); have HR1 := hidp (HR9.out.below HQ1.out HR9.out.lt); have HB1 := hidp (HB9.out.trans (HQ1.out.mono HB9.out.size))
                clear HA9 HR9 HB9
                obtain ⟨x0, x1, x2, xf⟩ := arr3k HA1.out
                have g0 := xf 0; have g1 := xf 1; have g2 := xf 2
                clear xf
                obtain ⟨y0, y1, y2, yf⟩ := arr3k HR1.out
                have f0 := yf 0; have f1 := yf 1; have f2 := yf 2
                clear yf
                have hne : b2 ≠ b4 := by have := h24.out; omega
                have hne' : b4 ≠ b2 := Ne.symm hne
                go_wp2_with fail
                clear x0 x1 x2 g0 g1 g2 y0 y1 y2 f0 f1 f2
                obtain ⟨w15, hw15, ha15, hp15⟩ := set1 HA1.out 2 (.int .i64 ((m : Int) + 1))
                rw [hw15]
                have HRa := hidp (hp15.arr (by have := h24.out; omega) HR1.out)
                obtain ⟨w16, hw16, ha16, hp16⟩ := set3 HRa.out (.string S) (.int .i64 (h : Int)) (.int .i64 ((m : Int) + 1))
                rw [hw16]
                have HBZ := hidp (hp16.below' (hp15.below' HB1.out h2w.out) (by have := h2w.out; have := h24.out; omega))
                obtain ⟨y0, y1, y2, -⟩ := arr3k ha16
                refine bodyPost_ret (v := .tuple #[.agg #[.string S, .int .i64 (h : Int), .int .i64 ((m : Int) + 1)], .string MS, .int .i64 0]) (by simp [results, Tryd.results15, go_sem, y0, y1, y2]) rfl ⟨by rw [G1.out, HG2.out, G3.out], HBZ.out⟩
        · apply o_call (f := 53) (args := #[.string sd, .string t]) (v := .string G) (hc := cg.out _)
          case ho => rfl
          case hw => rfl
          case hop => go_simp; first | done | rfl
          rintro X11 hb
          have HQ11 := hidp (HQ7.out.trans (hb.mono (by have := HQ7.out.size; have := HB0.out; omega)))
          refine ⟨HA.out.below HQ11.out h2B.out, ?_⟩
          clear hb
          simp only [Act.put, List.getElem_toArray, List.getElem_cons_zero, List.getElem_cons_succ, List.setIfInBounds_toArray, List.set_cons_zero, List.set_cons_succ]
          refine o_make (v := .slice (some ⟨X11.heap.size, 0, none⟩) 1 1) (W := X11.alloc (.cells #[.int .u8 (m : Int)] 5)) rfl rfl (by go_simp; first | done | rfl) ?_ ?_
          · exact (HA.out.below HQ11.out h2B.out).alloc _
          obtain ⟨X12, hX⟩ : ∃ X, X11.alloc (.cells #[.int .u8 (m : Int)] 5) = X := ⟨_, rfl⟩
          have HC12 := hidp (show Arr X12 X11.heap.size 5 [.int .u8 (m : Int)] from by rw [← hX]; exact Arr.new _ _ _)
          have HQ12 := hidp (show Below B0 U X12 from by rw [← hX]; exact HQ11.out.alloc (by have := HQ11.out.size; have := HB0.out; omega) _)
          rw [hX]
          clear hX
          simp only [Act.put, List.getElem_toArray, List.getElem_cons_zero, List.getElem_cons_succ, List.setIfInBounds_toArray, List.set_cons_zero, List.set_cons_succ]
          refine o_make (v := .string C1) (W := X12) rfl rfl ?_ (HA.out.below HQ12.out h2B.out) ?_
          · have hc := conv1 X12 _ m (by omega) (HC12.out.cell 0 (by simp))
            rw [hC1] at hc
            go_simp
          simp only [Act.put, List.getElem_toArray, List.getElem_cons_zero, List.getElem_cons_succ, List.setIfInBounds_toArray, List.set_cons_zero, List.set_cons_succ]
          apply s_val
          case ho => rfl
          case hw => rfl
          case hv => intro w hw; go_simp; first | done | with_reducible rfl | rfl
          simp only [Act.put, List.getElem_toArray, List.getElem_cons_zero, List.getElem_cons_succ, List.setIfInBounds_toArray, List.set_cons_zero, List.set_cons_succ]
          apply s_val
          case ho => rfl
          case hw => rfl
          case hv => intro w hw; go_simp; first | done | with_reducible rfl | rfl
          simp only [Act.put, List.getElem_toArray, List.getElem_cons_zero, List.getElem_cons_succ, List.setIfInBounds_toArray, List.set_cons_zero, List.set_cons_succ]
          refine NoPanic.normal ?_
          have HA6 := hidp (HA.out.below HQ12.out h2B.out); have HR6 := hidp (HR.out.below HQ12.out h4B.out); have HB6 := hidp (HB.out.trans (HQ12.out.mono hwB.out))
          go_wp2_with fail
          obtain ⟨U7, hU⟩ : ∃ U, ({ X12 with drawn := X12.drawn + 1 } : World) = U := ⟨_, rfl⟩
          have bU : Below X12.heap.size X12 U7 := by rw [← hU]; exact (Below.refl _ _).drew
          have HA7 := hidp (HA6.out.below bU HA6.out.lt); have HR7 := hidp (HR6.out.below bU HR6.out.lt); have HB7 := hidp (HB6.out.trans (bU.mono HB6.out.size))
          clear bU HA6 HR6 HB6 HA HR HB HQ0
          refine wp_region_noPanic ?_
          refine wp_region_scr (S := fun W => Arr W b2 23 [.string S, .int .i64 (h : Int), .int .i64 (m : Int)]) (.take 0 (.take 2 (.take 3 (.one 1 (.one 4 (.take 5 (.take 6 (.take 7 (.take 8 (.take 9 .done)))))))))) (by kernel_rfl) (by kernel_rfl) (fun _ _ _ _ _ h => h) (by simp [Scr.depth]) (by kernel_rfl) (by rw [hU]; exact HA7.out) ?_
          simp only [hU]
          clear hU
          apply s_val
          case ho => rfl
          case hw => rfl
          case hv => intro w hw; obtain ⟨x0, x1, x2, -⟩ := arr3k hw; go_simp; first | done | with_reducible rfl | rfl
          simp only [Act.put, List.getElem_toArray, List.getElem_cons_zero, List.getElem_cons_succ, List.setIfInBounds_toArray, List.set_cons_zero, List.set_cons_succ]
          apply s_val
          case ho => rfl
          case hw => rfl
          case hv => intro w hw; obtain ⟨x0, x1, x2, -⟩ := arr3k hw; go_simp; first | done | with_reducible rfl | rfl
          simp only [Act.put, List.getElem_toArray, List.getElem_cons_zero, List.getElem_cons_succ, List.setIfInBounds_toArray, List.set_cons_zero, List.set_cons_succ]
          apply s_val
          case ho => rfl
          case hw => rfl
          case hv => intro w hw; obtain ⟨x0, x1, x2, -⟩ := arr3k hw; go_simp; first | done | with_reducible rfl | rfl
          simp only [Act.put, List.getElem_toArray, List.getElem_cons_zero, List.getElem_cons_succ, List.setIfInBounds_toArray, List.set_cons_zero, List.set_cons_succ]
          apply o_callE (f := 46) (args := #[.agg #[.string S, .int .i64 (h : Int), .int .i64 (m : Int)]]) (hc := cp.out _)
          case ho => rfl
          case hw => rfl
          case hop => go_simp; first | done | rfl
          rintro vL W8 ⟨hv, hb⟩
          refine ⟨HA7.out.below hb HA7.out.lt, ?_⟩
          have HA8 := hidp (HA7.out.below hb HA7.out.lt); have HR8 := hidp (HR7.out.below hb HR7.out.lt); have HB8 := hidp (HB7.out.trans (hb.mono HB7.out.size)); have HV8 := hidp hv
          clear hb hv HA7 HR7 HB7
          simp only [Act.put, List.getElem_toArray, List.getElem_cons_zero, List.getElem_cons_succ, List.setIfInBounds_toArray, List.set_cons_zero, List.set_cons_succ]
          apply o_callP (f := 55) (args := #[vL, .int .i64 (m : Int)]) (hc := ct.out _ _ HV8.out.hs)
          case ho => rfl
          case hw => rfl
          case hop => go_simp; first | done | rfl
          rintro vp W9 ⟨hv, hb⟩
          refine ⟨HA8.out.below hb HA8.out.lt, ?_⟩
          have HA9 := hidp (HA8.out.below hb HA8.out.lt); have HR9 := hidp (HR8.out.below hb HR8.out.lt); have HB9 := hidp (HB8.out.trans (hb.mono HB8.out.size)); have HP9 := hidp hv.hs
          clear hb hv HA8 HR8 HB8 HV8
          obtain ⟨ap, cp', rfl⟩ := HP9.out.form
          rw [HN.out] at HP9 ⊢
          simp only [Act.put, List.getElem_toArray, List.getElem_cons_zero, List.getElem_cons_succ, List.setIfInBounds_toArray, List.set_cons_zero, List.set_cons_succ]
          apply s_val
          case ho => rfl
          case hw => rfl
          case hv => intro w hw; go_simp; first | done | with_reducible rfl | rfl
          simp only [Act.put, List.getElem_toArray, List.getElem_cons_zero, List.getElem_cons_succ, List.setIfInBounds_toArray, List.set_cons_zero, List.set_cons_succ]
          apply s_val
          case ho => rfl
          case hw => rfl
          case hv => intro w hw; go_simp; first | done | with_reducible rfl | rfl
          simp only [Act.put, List.getElem_toArray, List.getElem_cons_zero, List.getElem_cons_succ, List.setIfInBounds_toArray, List.set_cons_zero, List.set_cons_succ]
          apply s_val
          case ho => rfl
          case hw => rfl
          case hv => intro w hw; go_simp; first | done | with_reducible rfl | rfl
          simp only [Act.put, List.getElem_toArray, List.getElem_cons_zero, List.getElem_cons_succ, List.setIfInBounds_toArray, List.set_cons_zero, List.set_cons_succ]
          apply s_val
          case ho => rfl
          case hw => rfl
          case hv => intro w hw; go_simp; first | done | with_reducible rfl | rfl
          simp only [Act.put, List.getElem_toArray, List.getElem_cons_zero, List.getElem_cons_succ, List.setIfInBounds_toArray, List.set_cons_zero, List.set_cons_succ]
          apply s_val
          case ho => rfl
          case hw => rfl
          case hv => intro w hw; go_simp; first | done | with_reducible rfl | rfl
          simp only [Act.put, List.getElem_toArray, List.getElem_cons_zero, List.getElem_cons_succ, List.setIfInBounds_toArray, List.set_cons_zero, List.set_cons_succ]
          refine NoPanic.normal ?_
          have hcat := CAT.out
          go_wp2_with fail
          clear hcat
          go_loopw [7, 45] (fun t7 t45 wr => ∃ k : Nat, t45 = .int .i64 (k : Int) ∧ k ≤ n ∧ t7 = .string (mkS (([UInt8.ofNat m] ++ G.data.toList) ++ flat (p.take k))) ∧ Below W9.heap.size W9 wr) (fun _ t45 _ => n - (intOf t45).toNat)
          case atStart => exact ⟨0, rfl, by omega, by rw [CAT.out]; simp [flat], Below.refl _ _⟩
          case round =>
            obtain ⟨k, rfl, hk, rfl, hq⟩ := hrel
            have HQ1 := hidp hq
            have hsz := hidp hq.size
            clear hq
            by_cases hlt : k < n
            · obtain ⟨B, off, c', e1, _, hB, hrr⟩ := HP9.out.get (by rw [HN.out]; omega)
              simp only [Value.slice.injEq] at e1
              obtain ⟨rfl, -, -⟩ := e1
              have hkp' : k < p.length := by rw [HN.out]; exact hlt
              have hxl := hidp (HP9.out.1.get k hkp')
              have hrx := hidp (show wr.rangeAt B (off + 32 * k) (u8s p[k]) from rangeAt_below (range_nth hrr HP9.out.1 k hkp') HQ1.out hB)
              have htk := hidp (show flat (p.take k) ++ p[k] = flat (p.take (k + 1)) from by rw [List.take_succ_eq_append_getElem hkp', flat_snoc])
              obtain ⟨x, hx⟩ : ∃ x, p[k] = x := ⟨_, rfl⟩
              rw [hx] at hxl hrx htk
              have e1 : decide ((k : Int) < (n : Int)) = true := by simp; omega
              clear hx hkp' hrr
              obtain ⟨M1, hM1⟩ : ∃ M, mkS (([UInt8.ofNat m] ++ G.data.toList) ++ flat (p.take k)) = M := ⟨_, rfl⟩
              obtain ⟨M2, hM2⟩ : ∃ M, mkS x = M := ⟨_, rfl⟩
              have hM3 := hidp (show M1 ++ M2 = mkS (([UInt8.ofNat m] ++ G.data.toList) ++ flat (p.take (k + 1))) from by rw [← hM1, ← hM2, mkS_append, List.append_assoc, htk.out])
              have hns : ¬ 9223372036854775807 < M1.size + M2.size := by
                rw [← hM1, ← hM2, mkS_size, mkS_size, hxl.out, List.length_append, flat_len (HP9.out.1.take k), List.length_append, List.length_take, size_toList, hGs.out]; simp; omega
              rw [hM1]
              have HM2 := hidp hM2
              clear hM1 hM2
              go_wp2_with (first | (refine wpL_idx rfl (.tmp 43) (.tmp 45) rfl B off _ _ k rfl rfl hlt ?_) | (refine wpL_at rfl (.tmp 47) rfl B (off + 32 * k) x rfl hxl.out hrx.out ?_) | (refine wpL_new rfl rfl ?_; intro b12 w12 n12) | (refine wpL_put rfl (.tmp 11) (.tmp 48) rfl b12 x rfl rfl hxl.out (u8s z32) rfl n12.arr ?_; intro w13 ha13 hp13; have hcv := str_conv w13 b12 x hxl.out ha13.range; rw [HM2.out] at hcv) | (refine wpL_slc rfl (.tmp 11) rfl b12 0 rfl ?_))
              exact ⟨⟨k + 1, by go_num, by omega, by rw [hM3.out], HQ1.out.trans ((n12.put hp13).mono hsz.out)⟩, by simp [intOf]; omega⟩
            · have e1 : decide ((k : Int) < (n : Int)) = false := by simp; omega
              have hkn : k = n := by omega
              have htk : p.take k = p := by rw [hkn, List.take_of_length_le (by rw [HN.out]; exact Nat.le_refl _)]
              rw [htk]
              have HG2 := hidp G2'.out
              obtain ⟨MS, hMS⟩ : ∃ s, mkS (([UInt8.ofNat m] ++ G.data.toList) ++ flat p) = s := ⟨_, rfl⟩
              rw [hMS] at HG2 ⊢
              clear htk hMS
              have HA1 := hidp (HA9.out.below HQ1.out HA9.out.lt); have HR1 := hidp (HR9.out.below HQ1.out HR9.out.lt); have HB1 := hidp (HB9.out.trans (HQ1.out.mono HB9.out.size))
              clear HA9 HR9 HB9
              obtain ⟨x0, x1, x2, xf⟩ := arr3k HA1.out
              have g0 := xf 0; have g1 := xf 1; have g2 := xf 2
              clear xf
              obtain ⟨y0, y1, y2, yf⟩ := arr3k HR1.out
              have f0 := yf 0; have f1 := yf 1; have f2 := yf 2
              clear yf
              have hne : b2 ≠ b4 := by have := h24.out; omega
              have hne' : b4 ≠ b2 := Ne.symm hne
              go_wp2_with fail
              clear x0 x1 x2 g0 g1 g2 y0 y1 y2 f0 f1 f2
              obtain ⟨w15, hw15, ha15, hp15⟩ := set1 HA1.out 2 (.int .i64 ((m : Int) + 1))
              rw [hw15]
              have HRa := hidp (hp15.arr (by have := h24.out; omega) HR1.out)
              obtain ⟨w16, hw16, ha16, hp16⟩ := set3 HRa.out (.string S) (.int .i64 (h : Int)) (.int .i64 ((m : Int) + 1))
              rw [hw16]
              have HBZ := hidp (hp16.below' (hp15.below' HB1.out h2w.out) (by have := h2w.out; have := h24.out; omega))
              obtain ⟨y0, y1, y2, -⟩ := arr3k ha16
              refine bodyPost_ret (v := .tuple #[.agg #[.string S, .int .i64 (h : Int), .int .i64 ((m : Int) + 1)], .string MS, .int .i64 0]) (by simp [results, Tryd.results15, go_sem, y0, y1, y2]) rfl ⟨by rw [G1.out, HG2.out, G3.out], HBZ.out⟩
end Go.Proofs.YteilpmfdpceknaaDoor
