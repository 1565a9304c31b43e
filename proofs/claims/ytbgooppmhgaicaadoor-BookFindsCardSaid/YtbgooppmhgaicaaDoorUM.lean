/-
  Joined: InsG GrD GrE GrF.
-/
import Derived.Test.YtbgooppmhgaicaaDoorUL
import Derived.Lib.Overlaps
import Derived.Laws.Externs
import Derived.Shelf.RegionOpenPlain
import Derived.Lib.SliceRun
import Derived.Test.YtbgooppmhgaicaaDoorUK
namespace Go.Proofs.YtbgooppmhgaicaaDoor
set_option maxRecDepth 100000
set_option linter.unusedVariables false
set_option linter.unusedSimpArgs false
open Go.RowKit Rw

theorem arr_shape {w : World} {b T : Nat} {xs : List Value} (h : Arr w b T xs) : w.shape? b = some (T, xs.length) := by
  have e : w.heap[b]? = some (.cells xs.toArray T (0, 0)) := h
  unfold World.shape?
  rw [e]; simp
theorem ins_ints (n i : Nat) (hi : i ≤ n) (hn : n ≤ 1048576) : IntKind.i64.wrap ((n : Int) + 1) = ((n + 1 : Nat) : Int) ∧ IntKind.i64.wrap ((i : Int) + 1) = ((i + 1 : Nat) : Int) ∧ IntKind.i64.wrap ((n : Int) + 1 - (i : Int)) = ((n + 1 - i : Nat) : Int) ∧ IntKind.i64.wrap (((n + 1 : Nat) : Int) - (i : Int)) = ((n + 1 - i : Nat) : Int) := by
  refine ⟨?_, ?_, ?_, ?_⟩ <;> (rw [IntKind.wrap_i64]; omega)
set_option maxHeartbeats 16000000 in
theorem insert_own (w : World) (B : Nat) (v : Value) (es : List (List Value)) (vb : Nat) (x : List Value) (i : Nat) (hv : OwnR 27 36 w B v es) (h1 : One1 es) (hx : Arr w vb 27 x) (hxl : x.length = 36) (hx1 : ∀ u ∈ x, u.oneCell' = true)
    (hne : v.ownBlock ≠ some vb) (hi : i ≤ es.length) (hn : es.length ≤ 1024) (hB : B ≤ w.heap.size) :
    Calls Tryd.prog 26 #[v, .int .i64 (i : Int), .slice (some ⟨vb, 0, none⟩) 1 1] w fun e w' => ∃ v', e = .returned v' ∧ OwnR 27 36 w' B v' (es.take i ++ [x] ++ es.drop i) ∧ Below B w w' := by
  have R := hidp tyG
  have HV := hidp hv; have HX := hidp hx
  have hox : One1 [x] := fun e he => by simp at he; subst he; exact hx1
  have hkx : AllK 36 [x] := AllK.one hxl
  obtain ⟨n, hnn⟩ : ∃ n, es.length = n := ⟨_, rfl⟩
  have HN := hidp hnn
  have hv' := hv
  by_cases hin : i = n
  · have HF := hidp (show (es.take i ++ [x] ++ es.drop i) = es ++ [x] from by rw [hin, ← hnn, List.take_length, List.drop_length, List.append_nil])
    rcases hv.2.2 with ⟨rfl, h0⟩ | ⟨g, cap, cur, rfl, hBg, hg, hnc, hcm, hcs, hct⟩
    · have hes : es = [] := List.eq_nil_of_length_eq_zero h0
      have hi0 : i = 0 := by omega
      subst hi0
      have hn0 : n = 0 := by omega
      clear hv hv' hin hi hn hnn
      subst hn0
      go_enter Tryd.func26, Tryd.ntmps26
      go_wp2_with (refine wpL_appR R.out rfl (.tmp 23) (.tmp 24) rfl B vb 0 1 (.slice none 0 0) es [x] 1 rfl rfl rfl HV.out (by simpa using HX.out.range) hkx hox hB (by rw [HN.out]; omega) ?_; intro v' W ho _ hb)
      go_ret
      exact ⟨_, rfl, by rw [HF.out]; exact ho, hb⟩
    · rw [hnn] at hnc hct HV ⊢
      have eq1 : ((i : Int) == (n : Int)) = true := by simp; omega
      have hc63 : cap ≤ 9223372036854775807 := by unfold maxLen at hcm; omega
      obtain ⟨V1, hV1⟩ : ∃ V, Value.slice (some ⟨g, if cap = i then 0 else 0 + 36 * i, none⟩) (n - i) (cap - i) = V := ⟨_, rfl⟩
      clear hv hv' hnn hg hcs hct
      go_enter Tryd.func26, Tryd.ntmps26
      go_wp2_with (first | (refine wpL_fromV R.out rfl (.tmp 10) (.tmp 11) rfl g 0 n cap i rfl rfl (by omega) V1 hV1 ?_) | (refine wpL_appR R.out rfl (.tmp 23) (.tmp 24) rfl B vb 0 1 (.slice (some ⟨g, 0, none⟩) n cap) es [x] 1 rfl rfl rfl HV.out (by simpa using HX.out.range) hkx hox hB (by rw [HN.out]; omega) ?_; intro v' W ho _ hb))
      go_ret
      exact ⟨_, rfl, by rw [HF.out]; exact ho, hb⟩
  · have hlt : i < n := by omega
    obtain ⟨g, cap, cur, rfl, hBg, hg, hnc, hcm, hcs, hct⟩ := hv.blk (by omega)
    rw [hnn] at hnc hct HV ⊢
    have HG := hidp hg
    have hgv : g ≠ vb := fun h => hne (by rw [h]; rfl)
    have hgl := hg.lt; have hvl := hx.lt
    have eq1 : ((i : Int) == (n : Int)) = false := by simp; omega
    have hc63 : cap ≤ 9223372036854775807 := by unfold maxLen at hcm; omega
    have hn2 : n ≤ 1024 := by omega
    obtain ⟨q1, q2, q3, q4⟩ := ins_ints n i (by omega) (by omega)
    have hAl : (es.take i).flatten.length = 36 * i := by rw [Rw.flat_len (hv.1.take i), List.length_take, hnn, Nat.min_eq_left (by omega)]
    have hDl : (es.drop i).flatten.length = 36 * (n - i) := by rw [Rw.flat_len (hv.1.drop i), List.length_drop, hnn]
    have hdl : (es.drop i).length = n - i := by rw [List.length_drop, hnn]
    have hfl : (es.take i ++ [x] ++ es.drop i).flatten = (es.take i).flatten ++ x ++ (es.drop i).flatten := by simp
    have hANl : (es.take i ++ [x] ++ es.drop i).length = n + 1 := by simp [hnn]; omega
    have hANk : AllK 36 (es.take i ++ [x] ++ es.drop i) := ((hv.1.take i).app hkx).app (hv.1.drop i)
    have hrange := (show w.rangeAt g 0 es.flatten from by
      have := hg.range
      rw [← hct]
      intro j u hj
      exact this j u (by rw [List.getElem?_take] at hj; split at hj; exact hj; cases hj))
    have HRD := hidp (rAt_drop hrange hv.1 i (by omega))
    have HKD := hidp (hv.1.drop i); have HOD := hidp (h1.drop i)
    by_cases hroom : cap < n + 1
    · have eg : decide (((n + 1 : Nat) : Int) > (cap : Int)) = true := by simp; omega
      have eg2 : (cap : Int) < ((n + 1 : Nat) : Int) := by omega
      obtain ⟨i0, hi0, hz0, hz1, hz2⟩ := info_parts R.out.info
      have hold : (Builtin.firstCells i0.size i (.slice (some ⟨g, 0, none⟩) i cap)).run Tryd.prog w.drew = .ok (es.take i).flatten.toArray w.drew := by
        rw [hz1]
        exact run_firstCells_some (P := Tryd.prog) w.drew 36 i ⟨g, 0, none⟩ i cap (es.take i).flatten (by rw [hAl]; simp [Nat.mul_comm]) (fun j u hj => by
          rw [addr_addR]
          exact rAt_take hrange i j u hj)
      have hap : (Builtin.append_ #[22, 3] 22 #[.slice (some ⟨g, 0, none⟩) i cap, .int .i64 ((n + 1 - i : Nat) : Int)]).run Tryd.prog w =
          .ok (.slice (some ⟨w.heap.size, 0, none⟩) (n + 1) (grownCap w (n + 1) cap 27)) (w.drew.alloc (.cells ((es.take i).flatten.toArray ++ Builtin.zeroCells (Value.agg zG.toArray).cells (n + 1 - i) ++ Builtin.zeroCells (Value.agg zG.toArray).cells (grownCap w (n + 1) cap 27 - (n + 1))) 27)) := by
        have h := Lib.run_append_grow_zeros w 22 3 22 27 i0 _ .i64 .i64 R.out.us Tryd.underlying3 hi0 hz0 (some ⟨g, 0, none⟩) i cap (es.take i).flatten hold (n + 1 - i) (by omega) (by rw [hz1]; omega) (by omega) (by omega) (by rw [hz2]; omega) (by rw [hz2, show i + (n + 1 - i) = n + 1 from by omega]; exact growslice_fits hroom (by omega))
        rw [show i + (n + 1 - i) = n + 1 from by omega] at h
        exact h
      have hGn : n + 1 ≤ grownCap w (n + 1) cap 27 := grownCap_ge w _ _ _
      have hGm := grownCap_le_maxLen w (n + 1) cap 27 (by unfold maxLen; omega)
      obtain ⟨G, hG⟩ : ∃ G, grownCap w (n + 1) cap 27 = G := ⟨_, rfl⟩
      rw [hG] at hap hGn hGm
      obtain ⟨ROW, hROW⟩ : ∃ r : List Value, ((es.take i).flatten.toArray ++ Builtin.zeroCells (Value.agg zG.toArray).cells (n + 1 - i) ++ Builtin.zeroCells (Value.agg zG.toArray).cells (G - (n + 1))) = r.toArray := ⟨_, (Array.toArray_toList ..).symm⟩
      have hRl : ROW.length = G * 36 := by
        have h1 : ((es.take i).flatten.toArray ++ Builtin.zeroCells (Value.agg zG.toArray).cells (n + 1 - i) ++ Builtin.zeroCells (Value.agg zG.toArray).cells (G - (n + 1))).size = ROW.length := by rw [hROW]; exact List.size_toArray ..
        have h2 : ∀ m, (Builtin.zeroCells (Value.agg zG.toArray).cells m).size = m * 36 := fun m => by
          have : zG.length = 36 := rfl
          simp [Builtin.zeroCells, Value.cells, this]
        rw [Array.size_append, Array.size_append, List.size_toArray, hAl, h2, h2] at h1
        omega
      have hRA : ROW.take (36 * i) = (es.take i).flatten := by
        have e2 : ROW = (es.take i).flatten ++ (Builtin.zeroCells (Value.agg zG.toArray).cells (n + 1 - i)).toList ++ (Builtin.zeroCells (Value.agg zG.toArray).cells (G - (n + 1))).toList := by
          have := congrArg Array.toList hROW
          simpa using this.symm
        rw [e2, List.append_assoc, ← hAl, List.take_left]
      rw [hROW] at hap
      obtain ⟨W1, hW1⟩ : ∃ W, w.drew.alloc (.cells ROW.toArray 27) = W := ⟨_, rfl⟩
      rw [hW1] at hap
      have HAP := hidp hap
      obtain ⟨b9, hb9⟩ : ∃ b, w.heap.size = b := ⟨_, rfl⟩
      have HA1 := hidp (show Arr W1 b9 27 ROW from by rw [← hW1, ← hb9]; exact Arr.new w.drew 27 ROW)
      have HB1 := hidp (show Below w.heap.size w W1 from by rw [← hW1]; exact ((Below.refl _ w).drew).alloc (Nat.le_refl _) _)
      have hB9 := hidp (show B ≤ b9 from by omega)
      have HX1 := hidp (HX.out.below HB1.out hvl)
      have HRD1 := hidp (show W1.rangeAt g (0 + 36 * i) (es.drop i).flatten from rangeAt_below HRD.out HB1.out hgl)
      have hvb9 : vb < b9 := by omega
      have hgb9 : g < b9 := by omega
      have hc1 := run_copyR R.out W1 3 b9 (36 * i) (n + 1 - i) (G - i) vb 0 1 1 [x] ROW 27 (by rw [Nat.min_eq_left (by omega)]; rfl) hkx hox (by simpa using HX1.out.range) HA1.out (by
        have : 36 * (n + 1) ≤ 36 * G := Nat.mul_le_mul_left 36 hGn
        simp; omega)
      simp only [List.flatten_cons, List.flatten_nil, List.append_nil] at hc1
      obtain ⟨W2, hW2⟩ : ∃ W, W1.setCells b9 (36 * i) x = W := ⟨_, rfl⟩
      rw [hW2] at hc1
      have HC1 := hidp hc1
      have HA2 := hidp (show Arr W2 b9 27 (ROW.take (36 * i) ++ x ++ ROW.drop (36 * i + 36)) from by
        have := Rw.setCells_arr x (36 * i) W1 ROW HA1.out (by
          have : 36 * (n + 1) ≤ 36 * G := Nat.mul_le_mul_left 36 hGn
          omega)
        rw [hW2, hxl] at this; exact this)
      have HS2 := hidp (show Rt.Stp b9 W1 W2 from by rw [← hW2]; exact Rw.setCells_stp b9 x (36 * i) W1)
      have HRD2 := hidp (show W2.rangeAt g (0 + 36 * i) (es.drop i).flatten from rangeAt_below HRD1.out (HS2.out.below b9 (Nat.le_refl _)) hgb9)
      rw [hb9] at HAP
      have hgi1 : ¬ G = i := by omega
      have hgi2 : ¬ G = i + 1 := by omega
      have hci : ¬ cap = i := by omega
      have hfin := ins_grow (n := n) hAl hRA hxl hDl (by omega) (by
        have : 36 * (n + 1) ≤ 36 * G := Nat.mul_le_mul_left 36 hGn
        omega)
      have HFIN := hidp hfin
      have HRL := hidp hRl
      have HGM := hidp hGm
      clear hap hc1 hfin hW1 hW2 hROW hRA hRl hold hrange hcs hct hi0 hz0 hz1 hz2 hGm hv hv' hG hg
      obtain ⟨V1, hV1⟩ : ∃ V, Value.slice (some ⟨g, if cap = i then 0 else 0 + 36 * i, none⟩) (n - i) (cap - i) = V := ⟨_, rfl⟩
      go_enter Tryd.func26, Tryd.ntmps26
      go_wp2_with (first
        | (refine wpL_fromV R.out rfl (.tmp 10) (.tmp 11) rfl g 0 n cap i rfl rfl (by omega) V1 hV1 ?_)
        | (refine wpL_toR R.out rfl (.tmp 32) (.tmp 33) rfl g 0 n cap i rfl rfl (by omega) ?_)
        | (refine wpL_appRun rfl (.tmp 34) (.tmp 39) 22 3 rfl _ _ rfl rfl HAP.out ?_)
        | (refine wpL_fromV R.out rfl (.tmp 41) (.tmp 42) rfl b9 0 (n + 1) G i rfl rfl (by omega) (.slice (some ⟨b9, 36 * i, none⟩) (n + 1 - i) (G - i)) (by rw [if_neg hgi1, Nat.zero_add]) ?_)
        | (refine wpL_copyRun rfl (.tmp 43) (.tmp 44) 22 22 rfl _ _ rfl rfl HC1.out ?_))
      obtain ⟨U, hU⟩ : ∃ U, ({ W2 with drawn := W2.drawn + 1 } : World) = U := ⟨_, rfl⟩
      have bU : Below W2.heap.size W2 U := by rw [← hU]; exact (Below.refl _ _).drew
      have HA3 := hidp (HA2.out.below bU HA2.out.lt)
      have HRD3 := hidp (show U.rangeAt g (0 + 36 * i) (es.drop i).flatten from rangeAt_below HRD2.out bU (by have := HA2.out.lt; omega))
      have HB3 := hidp ((HS2.out.below' (HB1.out.mono (show B ≤ w.heap.size from hB)) hB9.out).trans (bU.mono (by have := HA2.out.lt; have := hB9.out; omega)))
      have hl3 : (ROW.take (36 * i) ++ x ++ ROW.drop (36 * i + 36)).length = G * 36 := by
        have h9 := HRL.out
        have : 36 * (n + 1) ≤ 36 * G := Nat.mul_le_mul_left 36 hGn
        simp only [List.length_append, List.length_take, List.length_drop, hxl]; omega
      have hc2 := run_copyR R.out U 3 b9 (36 * (i + 1)) (n + 1 - (i + 1)) (G - (i + 1)) g (0 + 36 * i) (n - i) (cap - i) (es.drop i) _ 27 (by rw [hdl, show n + 1 - (i + 1) = n - i from by omega, Nat.min_self]) HKD.out HOD.out HRD3.out HA3.out (by
        rw [hl3, hdl]
        have : 36 * (n + 1) ≤ 36 * G := Nat.mul_le_mul_left 36 hGn
        have e9 : 36 * (n - i) = 36 * n - 36 * i := Nat.mul_sub 36 n i
        omega)
      have hA9 := Rw.setCells_arr (es.drop i).flatten (36 * (i + 1)) U _ HA3.out (by
        rw [hl3, hDl]
        have : 36 * (n + 1) ≤ 36 * G := Nat.mul_le_mul_left 36 hGn
        have e9 : 36 * (n - i) = 36 * n - 36 * i := Nat.mul_sub 36 n i
        omega)
      have hS9 := Rw.setCells_stp b9 (es.drop i).flatten (36 * (i + 1)) U
      obtain ⟨W9, hW9⟩ : ∃ W, U.setCells b9 (36 * (i + 1)) (es.drop i).flatten = W := ⟨_, rfl⟩
      rw [hW9] at hc2 hA9 hS9
      have hl9 := congrArg List.length (show _ = _ from HFIN.out)
      have hown : OwnR 27 36 W9 B (.slice (some ⟨b9, 0, none⟩) (n + 1) G) (es.take i ++ [x] ++ es.drop i) := by
        have := OwnR.of_arr (B := B) (cap := G) hANk hA9 hB9.out (by rw [hANl]; exact hGn) HGM.out (by
          have h8 := hl3
          simp only [List.length_append, List.length_take, List.length_drop] at h8 ⊢
          have : 36 * (n + 1) ≤ 36 * G := Nat.mul_le_mul_left 36 hGn
          have e9 : 36 * (n - i) = 36 * n - 36 * i := Nat.mul_sub 36 n i
          rw [hDl]; omega) (by rw [hANl, hfl]; exact HFIN.out)
        rw [hANl] at this; exact this
      have HOWN := hidp hown; have HC2 := hidp hc2; have HB9 := hidp (hS9.below' HB3.out hB9.out)
      clear hc2 hA9 hS9 hown hW9 hl9 hl3 HFIN
      refine wp_region_noPanic ?_
      refine wp_region_scr (S := fun _ => True) (.take 0 (.take 1 (.take 2 (.take 3 (.take 4 (.take 5 (.take 6 (.take 7 (.one 8 .done))))))))) (by kernel_rfl) (by kernel_rfl) (fun _ _ _ _ _ h => h) (by simp [Scr.depth]) (by kernel_rfl) trivial ?_
      simp only [hU]
      clear hU
      apply s_val
      case ho => rfl
      case hw => rfl
      case hv => intro w hw; go_simp; first | done | with_reducible rfl | rfl
      simp only [Act.put, List.getElem_toArray, List.getElem_cons_zero, List.getElem_cons_succ, List.setIfInBounds_toArray, List.set_cons_zero, List.set_cons_succ]
      apply s_val
      case ho => rfl
      case hw => rfl
      case hv => intro w hw; go_simp; first | done | with_reducible rfl | rfl
      simp only [Act.put, List.getElem_toArray, List.getElem_cons_zero, List.getElem_cons_succ, List.setIfInBounds_toArray, List.set_cons_zero, List.set_cons_succ]
      apply s_val
      case ho => rfl
      case hw => rfl
      case hv => intro w hw; go_simp; first | done | with_reducible rfl | rfl
      simp only [Act.put, List.getElem_toArray, List.getElem_cons_zero, List.getElem_cons_succ, List.setIfInBounds_toArray, List.set_cons_zero, List.set_cons_succ]
      apply s_val (v := .int .i64 ((i + 1 : Nat) : Int))
      case ho => rfl
      case hw => rfl
      case hv => intro w hw; have e := q2; go_simp; first | done | with_reducible rfl | rfl
      simp only [Act.put, List.getElem_toArray, List.getElem_cons_zero, List.getElem_cons_succ, List.setIfInBounds_toArray, List.set_cons_zero, List.set_cons_succ]
      refine s_fromR R.out rfl rfl (.tmp 46) (.tmp 49) rfl b9 0 (n + 1) G (i + 1) rfl rfl (by omega) (.slice (some ⟨b9, 36 * (i + 1), none⟩) (n + 1 - (i + 1)) (G - (i + 1))) (by rw [if_neg hgi2, Nat.zero_add]) ?_
      simp only [Act.put, List.getElem_toArray, List.getElem_cons_zero, List.getElem_cons_succ, List.setIfInBounds_toArray, List.set_cons_zero, List.set_cons_succ]
      apply s_val
      case ho => rfl
      case hw => rfl
      case hv => intro w hw; go_simp; first | done | with_reducible rfl | rfl
      simp only [Act.put, List.getElem_toArray, List.getElem_cons_zero, List.getElem_cons_succ, List.setIfInBounds_toArray, List.set_cons_zero, List.set_cons_succ]
      apply s_val
      case ho => rfl
      case hw => rfl
      case hv => intro w hw; go_simp; first | done | with_reducible rfl | rfl
      simp only [Act.put, List.getElem_toArray, List.getElem_cons_zero, List.getElem_cons_succ, List.setIfInBounds_toArray, List.set_cons_zero, List.set_cons_succ]
      refine s_fromR R.out rfl rfl (.tmp 51) (.tmp 52) rfl g 0 n cap i rfl rfl (by omega) (.slice (some ⟨g, 0 + 36 * i, none⟩) (n - i) (cap - i)) (by rw [if_neg hci]) ?_
      simp only [Act.put, List.getElem_toArray, List.getElem_cons_zero, List.getElem_cons_succ, List.setIfInBounds_toArray, List.set_cons_zero, List.set_cons_succ]
      refine o_copyV rfl rfl (.tmp 50) (.tmp 53) 22 22 rfl _ _ _ W9 rfl rfl HC2.out trivial ?_
      simp only [Act.put, List.getElem_toArray, List.getElem_cons_zero, List.getElem_cons_succ, List.setIfInBounds_toArray, List.set_cons_zero, List.set_cons_succ]
      refine NoPanic.normal ?_
      go_wp2_with fail
      go_ret
      exact ⟨_, rfl, HOWN.out, HB9.out⟩
    · have eg : decide (((n + 1 : Nat) : Int) > (cap : Int)) = false := by simp; omega
      have eg2 : ¬ (cap : Int) < ((n + 1 : Nat) : Int) := by omega
      have hov : ∀ lb cb, (callFunc 35 #[.slice (some ⟨vb, 0, none⟩) 1 1, .slice (some ⟨g, 36 * (i + 1), none⟩) lb cb]).run Tryd.prog w = .ok (.value (.bool false)) w := fun lb cb => by
        rw [run_callFunc_extern Tryd.func35 (by kernel_rfl) (by kernel_rfl) (by kernel_rfl) (e := Extern.SlicesOverlaps.overlaps #[22, 22] #[4]) (by kernel_rfl),
          Lib.run_overlaps_apart w 22 4 27 R.out.us 36 R.out.sz ⟨vb, 0, none⟩ ⟨g, 36 * (i + 1), none⟩ 1 1 lb cb (Ne.symm hgv) 27 27 x.length cur.length (arr_shape HX.out) (arr_shape HG.out) (by rw [hcs]; have : 0 < cap * 36 := Nat.mul_pos (by omega) (by decide); omega) (HX.out.frozen 0) (HX.out.frozen x.length)]
        rfl
      have HOV := hidp hov
      have hcn : 36 * (n + 1) ≤ cap * 36 := by rw [Nat.mul_comm cap]; exact Nat.mul_le_mul_left 36 (by omega)
      have e9 : 36 * (n - i) = 36 * n - 36 * i := Nat.mul_sub 36 n i
      have e8 : 36 * (i + 1) = 36 * i + 36 := by rw [Nat.mul_add]
      have e7 : 36 * (n + 1) = 36 * n + 36 := by rw [Nat.mul_add]
      have e6 : 36 * i ≤ 36 * n := Nat.mul_le_mul_left 36 (by omega)
      have hci0 : ¬ cap = i := by omega
      have hci : ¬ cap = i + 1 := by omega
      have hAD : cur.take (36 * n) = (es.take i).flatten ++ (es.drop i).flatten := by rw [hct, ← List.flatten_append, List.take_append_drop]
      have HFIN := hidp (ins_shift (n := n) hAl hAD hxl hDl (by omega) (by omega))
      have HCS := hidp hcs; have HCM := hidp hcm; have HBG := hidp hBg
      clear hov hrange hct hAD hv hv' hg hcs hcm hBg
      obtain ⟨V1, hV1⟩ : ∃ V, Value.slice (some ⟨g, if cap = i then 0 else 0 + 36 * i, none⟩) (n - i) (cap - i) = V := ⟨_, rfl⟩
      go_enter Tryd.func26, Tryd.ntmps26
      have hovl := HOV.out
      simp only [Nat.mul_add, Nat.mul_one] at hovl
      go_wp2_with (first
        | (refine wpL_fromV R.out rfl (.tmp 10) (.tmp 11) rfl g 0 n cap i rfl rfl (by omega) V1 hV1 ?_)
        | (refine wpL_toR R.out rfl (.tmp 56) (.tmp 59) rfl g 0 n cap (n + 1) rfl rfl (by omega) ?_)
        | (refine wpL_fromV R.out rfl (.tmp 62) (.tmp 65) rfl g 0 (n + 1) cap (i + 1) rfl rfl (by omega) (.slice (some ⟨g, 36 * (i + 1), none⟩) (n + 1 - (i + 1)) (cap - (i + 1))) (by rw [if_neg hci, Nat.zero_add]) ?_)
        | simp only [hovl])
      clear hovl
      obtain ⟨U, hU⟩ : ∃ U, ({ w with drawn := w.drawn + 1 } : World) = U := ⟨_, rfl⟩
      have bU : Below w.heap.size w U := by rw [← hU]; exact (Below.refl _ _).drew
      have HG3 := hidp (HG.out.below bU hgl); have HX3 := hidp (HX.out.below bU hvl)
      have HRD3 := hidp (show U.rangeAt g (0 + 36 * i) (es.drop i).flatten from rangeAt_below HRD.out bU hgl)
      have HB3 := hidp (bU.mono hB)
      have hc2 := run_copyR R.out U 3 g (36 * (i + 1)) (n + 1 - (i + 1)) (cap - (i + 1)) g (0 + 36 * i) (n + 1 - i) (cap - i) (es.drop i) cur 27 (by rw [hdl, show n + 1 - (i + 1) = n - i from by omega, Nat.min_eq_right (by omega)]) HKD.out HOD.out HRD3.out HG3.out (by rw [HCS.out, hdl]; omega)
      have hA9 := Rw.setCells_arr (es.drop i).flatten (36 * (i + 1)) U cur HG3.out (by rw [HCS.out, hDl]; omega)
      have hS9 := Rw.setCells_stp g (es.drop i).flatten (36 * (i + 1)) U
      obtain ⟨W9, hW9⟩ : ∃ W, U.setCells g (36 * (i + 1)) (es.drop i).flatten = W := ⟨_, rfl⟩
      rw [hW9] at hc2 hA9 hS9
      have HC2 := hidp hc2; have HA9 := hidp hA9; have HX9 := hidp (hS9.arr (Ne.symm hgv) HX3.out); have HB9 := hidp (hS9.below' HB3.out HBG.out)
      have hl9 : (cur.take (36 * (i + 1)) ++ (es.drop i).flatten ++ cur.drop (36 * (i + 1) + (es.drop i).flatten.length)).length = cap * 36 := by
        have := HCS.out
        simp only [List.length_append, List.length_take, List.length_drop, hDl]; omega
      clear hc2 hA9 hS9 hW9 bU HG3 HX3 HRD3 HB3
      have hc3 := run_copyR R.out W9 3 g (36 * i) (n + 1 - i) (cap - i) vb 0 1 1 [x] _ 27 (by rw [Nat.min_eq_left (by omega)]; rfl) hkx hox (by simpa using HX9.out.range) HA9.out (by rw [hl9]; simp; omega)
      simp only [List.flatten_cons, List.flatten_nil, List.append_nil] at hc3
      have hA10 := Rw.setCells_arr x (36 * i) W9 _ HA9.out (by rw [hl9]; omega)
      have hS10 := Rw.setCells_stp g x (36 * i) W9
      obtain ⟨W10, hW10⟩ : ∃ W, W9.setCells g (36 * i) x = W := ⟨_, rfl⟩
      rw [hW10] at hc3 hA10 hS10
      have hown : OwnR 27 36 W10 B (.slice (some ⟨g, 0, none⟩) (n + 1) cap) (es.take i ++ [x] ++ es.drop i) := by
        have := OwnR.of_arr (B := B) (cap := cap) hANk hA10 HBG.out (by rw [hANl]; omega) HCM.out (by
          have h8 := hl9
          simp only [List.length_append, List.length_take, List.length_drop] at h8 ⊢
          omega) (by rw [hANl, hfl]; exact HFIN.out)
        rw [hANl] at this; exact this
      have HOWN := hidp hown; have HC3 := hidp hc3; have HB10 := hidp (hS10.below' HB9.out HBG.out)
      clear hc3 hA10 hS10 hW10 hown hl9 HFIN
      refine wp_region_noPanic ?_
      refine wp_region_scr (S := fun _ => True) (.take 0 (.take 1 (.take 2 (.take 3 (.take 4 (.take 5 (.take 6 (.take 7 (.one 8 .done))))))))) (by kernel_rfl) (by kernel_rfl) (fun _ _ _ _ _ h => h) (by simp [Scr.depth]) (by kernel_rfl) trivial ?_
      simp only [hU]
      clear hU
      apply s_val
      case ho => rfl
      case hw => rfl
      case hv => intro w hw; go_simp; first | done | with_reducible rfl | rfl
      simp only [Act.put, List.getElem_toArray, List.getElem_cons_zero, List.getElem_cons_succ, List.setIfInBounds_toArray, List.set_cons_zero, List.set_cons_succ]
      apply s_val
      case ho => rfl
      case hw => rfl
      case hv => intro w hw; go_simp; first | done | with_reducible rfl | rfl
      simp only [Act.put, List.getElem_toArray, List.getElem_cons_zero, List.getElem_cons_succ, List.setIfInBounds_toArray, List.set_cons_zero, List.set_cons_succ]
      apply s_val
      case ho => rfl
      case hw => rfl
      case hv => intro w hw; go_simp; first | done | with_reducible rfl | rfl
      simp only [Act.put, List.getElem_toArray, List.getElem_cons_zero, List.getElem_cons_succ, List.setIfInBounds_toArray, List.set_cons_zero, List.set_cons_succ]
      apply s_val (v := .int .i64 ((i + 1 : Nat) : Int))
      case ho => rfl
      case hw => rfl
      case hv => intro w hw; have e := q2; go_simp; first | done | with_reducible rfl | rfl
      simp only [Act.put, List.getElem_toArray, List.getElem_cons_zero, List.getElem_cons_succ, List.setIfInBounds_toArray, List.set_cons_zero, List.set_cons_succ]
      refine s_fromR R.out rfl rfl (.tmp 69) (.tmp 72) rfl g 0 (n + 1) cap (i + 1) rfl rfl (by omega) (.slice (some ⟨g, 36 * (i + 1), none⟩) (n + 1 - (i + 1)) (cap - (i + 1))) (by rw [if_neg hci, Nat.zero_add]) ?_
      simp only [Act.put, List.getElem_toArray, List.getElem_cons_zero, List.getElem_cons_succ, List.setIfInBounds_toArray, List.set_cons_zero, List.set_cons_succ]
      apply s_val
      case ho => rfl
      case hw => rfl
      case hv => intro w hw; go_simp; first | done | with_reducible rfl | rfl
      simp only [Act.put, List.getElem_toArray, List.getElem_cons_zero, List.getElem_cons_succ, List.setIfInBounds_toArray, List.set_cons_zero, List.set_cons_succ]
      apply s_val
      case ho => rfl
      case hw => rfl
      case hv => intro w hw; go_simp; first | done | with_reducible rfl | rfl
      simp only [Act.put, List.getElem_toArray, List.getElem_cons_zero, List.getElem_cons_succ, List.setIfInBounds_toArray, List.set_cons_zero, List.set_cons_succ]
      refine s_fromR R.out rfl rfl (.tmp 74) (.tmp 75) rfl g 0 (n + 1) cap i rfl rfl (by omega) (.slice (some ⟨g, 0 + 36 * i, none⟩) (n + 1 - i) (cap - i)) (by rw [if_neg hci0]) ?_
      simp only [Act.put, List.getElem_toArray, List.getElem_cons_zero, List.getElem_cons_succ, List.setIfInBounds_toArray, List.set_cons_zero, List.set_cons_succ]
      refine o_copyV rfl rfl (.tmp 73) (.tmp 76) 22 22 rfl _ _ _ W9 rfl rfl HC2.out trivial ?_
      simp only [Act.put, List.getElem_toArray, List.getElem_cons_zero, List.getElem_cons_succ, List.setIfInBounds_toArray, List.set_cons_zero, List.set_cons_succ]
      refine NoPanic.normal ?_
      go_wp2_with (first
        | (refine wpL_fromV R.out rfl (.tmp 78) (.tmp 79) rfl g 0 (n + 1) cap i rfl rfl (by omega) (.slice (some ⟨g, 36 * i, none⟩) (n + 1 - i) (cap - i)) (by rw [if_neg hci0, Nat.zero_add]) ?_)
        | (refine wpL_copyRun rfl (.tmp 80) (.tmp 81) 22 22 rfl _ _ rfl rfl HC3.out ?_))
      go_ret
      exact ⟨_, rfl, HOWN.out, HB10.out⟩
end Go.Proofs.YtbgooppmhgaicaaDoor

namespace Go.Proofs.YtbgooppmhgaicaaDoor
set_option maxRecDepth 100000
set_option linter.unusedVariables false
set_option linter.unusedSimpArgs false
open Go.RowKit Rw

/-- Where something is found first, or -1. -/
def posP (p : Gr → Bool) (gs : List Gr) : Int := if gs.findIdx p < gs.length then (gs.findIdx p : Int) else -1
theorem pos_hit {p : Gr → Bool} {gs : List Gr} {i : Nat} (h : i < gs.length) (h1 : p gs[i] = true) (h2 : ∀ j, j < i → (hj : j < gs.length) → p gs[j] = false) : posP p gs = i := by
  have : gs.findIdx p = i := (List.findIdx_eq h).2 ⟨h1, fun j hj => h2 j hj (by omega)⟩
  unfold posP; rw [this, if_pos h]
theorem pos_miss {p : Gr → Bool} {gs : List Gr} (h2 : ∀ j, (hj : j < gs.length) → p gs[j] = false) : posP p gs = -1 := by
  refine if_neg fun h => ?_
  have h1 := List.findIdx_getElem (w := h)
  rw [h2 _ h] at h1
  cases h1
set_option maxHeartbeats 8000000 in
theorem indexFunc_any (w : World) (v : Value) (gs : List Gr) (hv : GsAt w v gs) (hnn : gs.length ≤ 4611686018427387904) (p : Gr → Bool) (g : Nat) (lb : Array Value) (eg : ∀ args w, (callFunc g args).run Tryd.prog w = .ok (.enter g args) w)
    (hp : ∀ (W : World) (x : Gr), x.ok → Below w.heap.size w W → Calls Tryd.prog g (#[.agg x.row.toArray] ++ lb) W fun e w' => e = .returned (.bool (p x)) ∧ Below W.heap.size W w') :
    Calls Tryd.prog 14 #[v, .func (.func g) #[] lb] w fun e w' => e = .returned (.int .i64 (posP p gs)) ∧ Below w.heap.size w w' := by
  have HV := hidp hv; clear hv
  have HP := hidp hp; clear hp
  obtain ⟨av, cv0, rfl⟩ := HV.out.form
  obtain ⟨n, hn⟩ : ∃ n, gs.length = n := ⟨_, rfl⟩
  have HN := hidp hn
  rw [hn] at HV hnn ⊢
  clear hn
  go_enter Tryd.func14, Tryd.ntmps14
  go_wp2_with fail
  go_loopw [8] (fun t8 wr => ∃ i : Nat, t8 = .int .i64 (i : Int) ∧ i ≤ n ∧ Hid (∀ j, j < i → (hj : j < gs.length) → p gs[j] = false) ∧ Below w.heap.size w wr) (fun t8 _ => n - (intOf t8).toNat)
  case atStart => exact ⟨0, rfl, by omega, hidp (fun j h => absurd h (Nat.not_lt_zero _)), Below.refl _ _⟩
  case round =>
    obtain ⟨i, rfl, hi, HOK, hb⟩ := hrel
    have HB := hidp hb
    clear hb
    by_cases hlt : i < n
    · have e1 : decide ((i : Int) < (n : Int)) = true := by simp; omega
      have hgl : i < gs.length := by rw [HN.out]; exact hlt
      obtain ⟨BK, off, c, e2, hc, hBK0, hR0⟩ := HV.out.get (by rw [HN.out]; omega)
      rw [HN.out] at e2
      simp only [Value.slice.injEq] at e2
      obtain ⟨rfl, -, rfl⟩ := e2
      obtain ⟨x, hge⟩ : ∃ x, gs[i] = x := ⟨_, rfl⟩
      have HRI := hidp (show wr.rangeAt BK (off + 36 * i) x.row from by rw [← hge]; exact rangeAt_below (hR0 i hgl) HB.out hBK0)
      have hxok := hidp (show x.ok from by rw [← hge]; exact HV.out.2 _ (List.getElem_mem hgl))
      have hcall := HP.out wr x hxok.out HB.out
      clear hR0 hBK0 hc
      cases hq : p x with
      | true =>
        rw [hq] at hcall
        have HF := hidp (show posP p gs = i from pos_hit hgl (by rw [hge]; exact hq) HOK.out)
        clear hge hq
        go_wp2_with (first | (refine wpL_idxR tyG rfl (.tmp 12) (.tmp 13) rfl BK off n _ i rfl rfl hlt ?_) | (refine wpL_atR tyG rfl (.tmp 14) rfl BK (off + 36 * i) x.row rfl (Gr.len hxok.out) HRI.out ?_) | (go_at_fn g; refine hcall.mono ?_; rintro e w' ⟨rfl, hb'⟩))
        go_ret
        exact ⟨by rw [HF.out]; rfl, HB.out.trans (hb'.mono HB.out.size)⟩
      | false =>
        rw [hq] at hcall
        have HOK2 := hidp (show ∀ j, j < i + 1 → (hj : j < gs.length) → p gs[j] = false from fun j h hj => by
          rcases (by omega : j < i ∨ j = i) with h | rfl
          · exact HOK.out j h hj
          · rw [hge]; exact hq)
        clear hge hq
        go_wp2_with (first | (refine wpL_idxR tyG rfl (.tmp 12) (.tmp 13) rfl BK off n _ i rfl rfl hlt ?_) | (refine wpL_atR tyG rfl (.tmp 14) rfl BK (off + 36 * i) x.row rfl (Gr.len hxok.out) HRI.out ?_) | (go_at_fn g; refine hcall.mono ?_; rintro e w' ⟨rfl, hb'⟩))
        exact ⟨⟨i + 1, by go_num, by omega, HOK2, HB.out.trans (hb'.mono HB.out.size)⟩, by simp [intOf]; omega⟩
    · have e1 : decide ((i : Int) < (n : Int)) = false := by simp; omega
      have hin : i = n := by omega
      have HF := hidp (show posP p gs = -1 from pos_miss fun j hj => HOK.out j (by rw [hin, ← HN.out]; exact hj) hj)
      go_wp2_with fail
      go_ret
      exact ⟨by rw [HF.out]; rfl, HB.out⟩
set_option maxHeartbeats 8000000 in
theorem containsFunc_any (w : World) (v : Value) (gs : List Gr) (hv : GsAt w v gs) (hnn : gs.length ≤ 4611686018427387904) (p : Gr → Bool) (g : Nat) (lb : Array Value) (eg : ∀ args w, (callFunc g args).run Tryd.prog w = .ok (.enter g args) w)
    (hp : ∀ (W : World) (x : Gr), x.ok → Below w.heap.size w W → Calls Tryd.prog g (#[.agg x.row.toArray] ++ lb) W fun e w' => e = .returned (.bool (p x)) ∧ Below W.heap.size W w') :
    Calls Tryd.prog 21 #[v, .func (.func g) #[] lb] w fun e w' => e = .returned (.bool (decide (0 ≤ posP p gs))) ∧ Below w.heap.size w w' := by
  have c := indexFunc_any w v gs hv hnn p g lb eg hp
  clear hp hv
  obtain ⟨P, hP⟩ : ∃ P, posP p gs = P := ⟨_, rfl⟩
  rw [hP] at c ⊢
  obtain ⟨D, hD⟩ : ∃ D, decide (0 ≤ P) = D := ⟨_, rfl⟩
  have hD2 : decide (P ≥ 0) = D := hD
  rw [hD]
  go_enter Tryd.func21, Tryd.ntmps21
  go_wp2_with (go_at_call 14; refine c.mono ?_; rintro e w' ⟨rfl, hb'⟩)
  go_ret
  exact ⟨rfl, hb'⟩

set_option maxHeartbeats 4000000 in
theorem pred1 (w : World) (b : Nat) (g : Gr) (hg : g.ok) (hA : Arr w b 27 g.row) (W : World) (x : Gr) (hx : x.ok) (hb : Below w.heap.size w W) :
    Calls Tryd.prog 22 (#[.agg x.row.toArray] ++ #[.pointer (some ⟨b, 0, none⟩)]) W fun e w' => e = .returned (.bool (mt x g)) ∧ Below W.heap.size W w' := by
  have HA := hidp (hA.below hb hA.lt)
  have c := hidp (fun W => meet_any W x g)
  obtain ⟨D, hD⟩ : ∃ D, mt x g = D := ⟨_, rfl⟩
  rw [hD] at c ⊢
  clear hD hA
  show Calls Tryd.prog 22 #[.agg x.row.toArray, .pointer (some ⟨b, 0, none⟩)] W _
  go_enter Tryd.func22, Tryd.ntmps22
  go_wp2_with (first | (refine wpL_boxR 27 rfl (.tmp 0) rfl x.row rfl ?_; intro b2 w2 n2; have HA2 := hidp (n2.old HA.out); have HX2 := hidp n2.arr; have HB2 := hidp n2.below; clear n2) | (refine wpL_getR tyG rfl (.tmp 2) rfl b2 x.row rfl (Gr.len hx) HX2.out ?_) | (refine wpL_getR tyG rfl (.tmp 1) rfl b g.row rfl (Gr.len hg) HA2.out ?_))
  refine (c.out _).mono ?_
  rintro e w3 ⟨rfl, hb3⟩
  have HB3 := hidp (HB2.out.trans (hb3.mono HB2.out.size))
  go_wp2_with fail
  go_ret
  exact ⟨rfl, HB3.out⟩

set_option maxHeartbeats 4000000 in
theorem pred2 (w : World) (b : Nat) (g : Gr) (hg : g.ok) (hA : Arr w b 27 g.row) (W : World) (x : Gr) (hx : x.ok) (hb : Below w.heap.size w W) :
    Calls Tryd.prog 24 (#[.agg x.row.toArray] ++ #[.pointer (some ⟨b, 0, none⟩)]) W fun e w' => e = .returned (.bool (fol x g)) ∧ Below W.heap.size W w' := by
  have HA := hidp (hA.below hb hA.lt)
  have c := hidp (fun W => follows_any W x g)
  obtain ⟨D, hD⟩ : ∃ D, fol x g = D := ⟨_, rfl⟩
  rw [hD] at c ⊢
  clear hD hA
  show Calls Tryd.prog 24 #[.agg x.row.toArray, .pointer (some ⟨b, 0, none⟩)] W _
  go_enter Tryd.func24, Tryd.ntmps24
  go_wp2_with (first | (refine wpL_boxR 27 rfl (.tmp 0) rfl x.row rfl ?_; intro b2 w2 n2; have HA2 := hidp (n2.old HA.out); have HX2 := hidp n2.arr; have HB2 := hidp n2.below; clear n2) | (refine wpL_getR tyG rfl (.tmp 2) rfl b2 x.row rfl (Gr.len hx) HX2.out ?_) | (refine wpL_getR tyG rfl (.tmp 1) rfl b g.row rfl (Gr.len hg) HA2.out ?_))
  refine (c.out _).mono ?_
  rintro e w3 ⟨rfl, hb3⟩
  have HB3 := hidp (HB2.out.trans (hb3.mono HB2.out.size))
  go_wp2_with fail
  go_ret
  exact ⟨rfl, HB3.out⟩

/-- A grant is a server's at a time. -/
def fdG (s t : Int) (x : Gr) : Bool := decide (x.s = s) && decide (x.f ≤ t) && decide (t ≤ x.t)
set_option maxHeartbeats 8000000 in
theorem pred3 (w : World) (b4 b5 : Nat) (s t : Int) (h4 : w.cell? ⟨b4, 0, none⟩ = some (.int .i64 s)) (h5 : w.cell? ⟨b5, 0, none⟩ = some (.int .i64 t)) (W : World) (x : Gr) (hx : x.ok) (hb : Below w.heap.size w W) :
    Calls Tryd.prog 15 (#[.agg x.row.toArray] ++ #[.pointer (some ⟨b4, 0, none⟩), .pointer (some ⟨b5, 0, none⟩)]) W fun e w' => e = .returned (.bool (fdG s t x)) ∧ Below W.heap.size W w' := by
  have l4 : b4 < w.heap.size := by have := World.block_lt_of_cell? w _ h4; simpa using this
  have l5 : b5 < w.heap.size := by have := World.block_lt_of_cell? w _ h5; simpa using this
  have H4 := hidp ((hb.cell (p := ⟨b4, 0, none⟩) l4).trans h4); have H5 := hidp ((hb.cell (p := ⟨b5, 0, none⟩) l5).trans h5)
  have HL4 := hidp (Nat.lt_of_lt_of_le l4 hb.size); have HL5 := hidp (Nat.lt_of_lt_of_le l5 hb.size)
  clear h4 h5 l4 l5 hb
  show Calls Tryd.prog 15 #[.agg x.row.toArray, .pointer (some ⟨b4, 0, none⟩), .pointer (some ⟨b5, 0, none⟩)] W _
  by_cases c0 : x.s = s
  · have d0 : (x.s == s) = true := by simp [c0]
    by_cases c1 : x.f ≤ t
    · have d1 : decide (x.f ≤ t) = true := decide_eq_true c1
      by_cases c2 : t ≤ x.t
      · have d2 : decide (t ≤ x.t) = true := decide_eq_true c2
        have HF := hidp (show fdG s t x = true from by unfold fdG; simp [*])
        go_enter Tryd.func15, Tryd.ntmps15
        go_wp2_with (refine wpL_boxR 27 rfl (.tmp 0) rfl x.row rfl ?_; intro b3 w2 n2; have HB2 := hidp n2.below; obtain ⟨x0, x1, x2, x3⟩ := gr_cells n2.arr; have g1 := (n2.below.cell (p := ⟨b4, 0, none⟩) (HL4.out)).trans H4.out; have g2 := (n2.below.cell (p := ⟨b5, 0, none⟩) (HL5.out)).trans H5.out; clear n2)
        go_ret
        exact ⟨by rw [HF.out]; rfl, HB2.out⟩
      · have d2 : decide (t ≤ x.t) = false := decide_eq_false c2
        have HF := hidp (show fdG s t x = false from by unfold fdG; simp [*])
        go_enter Tryd.func15, Tryd.ntmps15
        go_wp2_with (refine wpL_boxR 27 rfl (.tmp 0) rfl x.row rfl ?_; intro b3 w2 n2; have HB2 := hidp n2.below; obtain ⟨x0, x1, x2, x3⟩ := gr_cells n2.arr; have g1 := (n2.below.cell (p := ⟨b4, 0, none⟩) (HL4.out)).trans H4.out; have g2 := (n2.below.cell (p := ⟨b5, 0, none⟩) (HL5.out)).trans H5.out; clear n2)
        go_ret
        exact ⟨by rw [HF.out]; rfl, HB2.out⟩
    · have d1 : decide (x.f ≤ t) = false := decide_eq_false c1
      have HF := hidp (show fdG s t x = false from by unfold fdG; simp [*])
      go_enter Tryd.func15, Tryd.ntmps15
      go_wp2_with (refine wpL_boxR 27 rfl (.tmp 0) rfl x.row rfl ?_; intro b3 w2 n2; have HB2 := hidp n2.below; obtain ⟨x0, x1, x2, x3⟩ := gr_cells n2.arr; have g1 := (n2.below.cell (p := ⟨b4, 0, none⟩) (HL4.out)).trans H4.out; have g2 := (n2.below.cell (p := ⟨b5, 0, none⟩) (HL5.out)).trans H5.out; clear n2)
      go_ret
      exact ⟨by rw [HF.out]; rfl, HB2.out⟩
  · have d0 : (x.s == s) = false := by simpa using c0
    have HF := hidp (show fdG s t x = false from by unfold fdG; simp [*])
    go_enter Tryd.func15, Tryd.ntmps15
    go_wp2_with (refine wpL_boxR 27 rfl (.tmp 0) rfl x.row rfl ?_; intro b3 w2 n2; have HB2 := hidp n2.below; obtain ⟨x0, x1, x2, x3⟩ := gr_cells n2.arr; have g1 := (n2.below.cell (p := ⟨b4, 0, none⟩) (HL4.out)).trans H4.out; have g2 := (n2.below.cell (p := ⟨b5, 0, none⟩) (HL5.out)).trans H5.out; clear n2)
    go_ret
    exact ⟨by rw [HF.out]; rfl, HB2.out⟩

section
variable {P : Program} {ST T k by_ : Nat} {z : List Value} {ops : Array Oper} {rest : List Oper} {o : Oper} {a : Act} {w : World} {Q : Exit → Act → World → Prop}
theorem wpL_bs0R (R : RowTy P ST T k by_ z) (hgd : o.guard = none) (ho : o.op = .buildSlice ST 0 #[])
    (h : ∀ b W, Rt.NewAt w W b T [] → wpList P ops Q rest (a.put o.dst (.slice (some ⟨b, 0, none⟩) 0 0)) W) : wpList P ops Q (o :: rest) a w := by
  obtain ⟨i0, hi, hz0, hz1, hz2⟩ := info_parts R.info
  refine wpList_plain hgd fun K hK => ?_
  have := hK _ _ (h w.heap.size (w.alloc (.cells #[] T)) (Rt.NewAt.mk' w T []))
  unfold Oper.wp execOp
  simp only [ho, List.map_toArray, List.map_nil, Sem.run_bind]
  simp [Instr.buildSlice, run_underlying R.us, sizeOf, typeInfo, zeroValue, hi, hz0, hz1, newRow, Instr.fill, show Array.range 0 = #[] from rfl]
  exact this
theorem OwnR.empty {B b : Nat} {W : World} (ha : Arr W b T []) (hB : B ≤ b) : OwnR T k W B (.slice (some ⟨b, 0, none⟩) 0 0) [] :=
  OwnR.of_arr (cap := 0) (cur := []) (es := []) AllK.nil ha hB (by simp) (by simp) (by simp) (by simp)
end

set_option maxHeartbeats 8000000 in
theorem clone_any (w : World) (v : Value) (gs : List Gr) (hv : GsAt w v gs) (hn : gs.length ≤ 1024) :
    Calls Tryd.prog 19 #[v] w fun e w' => ∃ v', e = .returned v' ∧ OwnR 27 36 w' w.heap.size v' (rows gs) ∧ Below w.heap.size w w' := by
  have hk := rows_all hv.2
  have q53 : ∀ (w : World) (a : Option Addr) (n c n' c' : Nat), (binOp .eql 22 (.slice a n c) (.slice none n' c')).run Tryd.prog w = .ok (.bool a.isNone) w := fun w a n c n' c' => Lib.run_eql_slice_nil w _ _ a n c n' c' tyG.us
  rcases hv.1.2 with ⟨rfl, he⟩ | ⟨BK, off, c, rfl, hc, hB, hr⟩
  · rw [he]
    go_enter Tryd.func19, Tryd.ntmps19
    go_wp2_with fail
    go_ret
    exact ⟨_, rfl, OwnR.nil _ _, Below.refl _ _⟩
  · have HR := hidp hr; have HK := hidp hk; have hl := rows_len gs
    obtain ⟨R, hR⟩ : ∃ R, rows gs = R := ⟨_, rfl⟩
    have HO := hidp (show One1 R from by rw [← hR]; exact rows_one gs)
    rw [hR] at HR HK hl ⊢
    obtain ⟨n, hnn⟩ : ∃ n, R.length = n := ⟨_, rfl⟩
    have HN := hidp hnn
    rw [hnn]
    clear hv hr hk hR hc hnn
    go_enter Tryd.func19, Tryd.ntmps19
    go_wp2_with (first | (refine wpL_bs0R tyG rfl rfl ?_; intro b5 w5 n5; have HE := hidp (OwnR.empty (k := 36) n5.arr n5.le); have HR5 := hidp (rangeAt_below HR.out n5.below hB); have HB5 := hidp n5.below; have h5 := hidp (show w.heap.size ≤ w5.heap.size from by have := n5.size; have := n5.at_; omega); clear n5) | (refine wpL_appR tyG rfl (.tmp 5) (.tmp 6) rfl w.heap.size BK off c _ [] R n rfl rfl HN.out HE.out HR5.out HK.out HO.out h5.out (by have := HN.out; simp; omega) ?_; intro v' W ho _ hb))
    go_ret
    exact ⟨_, rfl, by simpa using ho, HB5.out.trans hb⟩
end Go.Proofs.YtbgooppmhgaicaaDoor

namespace Go.Proofs.YtbgooppmhgaicaaDoor
set_option maxRecDepth 100000
set_option linter.unusedVariables false
set_option linter.unusedSimpArgs false
open Go.RowKit Rw

theorem gz_ok : gz.ok := rfl
theorem build_gr (w : World) : (Instr.build 27 #[]).run Tryd.prog w = .ok (.agg zG.toArray) w := by
  have hz := tyG.zero w
  have hu := Tryd.underlying27
  unfold Instr.build
  simp [Sem.run_bind, hz, run_underlying hu, Instr.fill, Value.cells]
section
variable {ops : Array Oper} {rest : List Oper} {o : Oper} {a : Act} {w : World} {Q : Exit → Act → World → Prop}
theorem wpL_zeroG (hgd : o.guard = none) (ho : o.op = .build 27 #[])
    (h : wpList Tryd.prog ops Q rest (a.put o.dst (.agg zG.toArray)) w) : wpList Tryd.prog ops Q (o :: rest) a w := by
  refine wpList_plain hgd fun K hK => ?_
  have := hK _ _ h
  unfold Oper.wp execOp
  simp only [ho, List.map_toArray, List.map_nil, Array.map_empty, Sem.run_bind, build_gr, Result.andThen_ok]
  exact this
end
/-- What a book finds. -/
def fiV (gs : List Gr) (s t : Int) : Gr := if okB gs = true then (if gs.findIdx (fdG s t) < gs.length then gs.getD (gs.findIdx (fdG s t)) gz else gz) else gz
def fiE (gs : List Gr) (s t : Int) : Int := if okB gs = true then (if gs.findIdx (fdG s t) < gs.length then 0 else 3) else 2
theorem fiV_ok {gs : List Gr} (h : ∀ g ∈ gs, g.ok) (s t : Int) : (fiV gs s t).ok := by
  unfold fiV
  split
  · split
    · rename_i _ h1; rw [getD_at h1]; exact h _ (List.getElem_mem h1)
    · exact gz_ok
  · exact gz_ok

section
variable {ops : Array Oper} {rest : List Oper} {o : Oper} {a : Act} {w : World} {Q : Exit → Act → World → Prop}
theorem wpL_boxI (T : TypeId) (hgd : o.guard = none) (x : Operand) (ho : o.op = .box T x) (v : Value) (hx : a.eval x = v) (hv : v.cells = #[v])
    (h : ∀ b W, Rt.NewAt w W b T [v] → wpList Tryd.prog ops Q rest (a.put o.dst (.pointer (some ⟨b, 0, none⟩))) W) : wpList Tryd.prog ops Q (o :: rest) a w := by
  refine wpList_plain hgd fun K hK => ?_
  have := hK _ _ (h w.heap.size (w.alloc (.cells #[v] T)) (Rt.NewAt.mk' w T [v]))
  unfold Oper.wp execOp
  simp only [ho, Instr.box, Sem.run_bind, Result.andThen_ok, hx]
  simp [newVar, newRow, hv]
  exact this
end
set_option maxHeartbeats 16000000 in
theorem bfind_any (w : World) (v : Value) (gs : List Gr) (hv : GsAt w v gs) (s t : Int) :
    Calls Tryd.prog 5 #[v, .int .i64 s, .int .i64 t] w fun e w' => e = .returned (.tuple #[.agg (fiV gs s t).row.toArray, .int .i64 (fiE gs s t)]) ∧ Below w.heap.size w w' := by
  have HV := hidp hv; clear hv
  have ck := hidp (fun W v (h : GsAt W v gs) => bcheck_any W v gs h)
  obtain ⟨av, cv, rfl⟩ := HV.out.form
  cases hok : okB gs with
  | false =>
    have hc : ckB gs = 2 := by unfold ckB; rw [hok]; rfl
    have HF := hidp (show (fiV gs s t).row = zG from by unfold fiV; rw [hok]; rfl)
    have HE := hidp (show fiE gs s t = 2 from by unfold fiE; rw [hok]; rfl)
    rw [hc] at ck
    clear hc hok
    go_enter Tryd.func5, Tryd.ntmps5
    go_wp2_with (first
      | (refine wpL_boxI 3 rfl (.tmp 1) rfl (.int .i64 s) rfl rfl ?_; intro p4 w4 n4)
      | (refine wpL_boxI 2 rfl (.tmp 2) rfl (.int .i64 t) rfl rfl ?_; intro p5 w5 n5; have H4a := hidp (n5.old n4.arr); have H5a := hidp n5.arr; have HB5 := hidp (n4.below.trans (n5.below.mono n4.below.size)); clear n4 n5)
      | (refine wpL_newR tyG rfl rfl ?_; intro b6 w6 n6; have H4 := hidp (n6.old H4a.out); have H5 := hidp (n6.old H5a.out); have HB := hidp (HB5.out.trans (n6.below.mono HB5.out.size)); have HR := hidp n6.arr; have h6w := hidp (Nat.le_trans HB5.out.size n6.le); clear n6 H4a H5a HB5))
    refine (ck.out _ _ (HV.out.to HB.out)).mono ?_
    rintro e w7 ⟨rfl, hb7⟩
    have HB7 := hidp (HB.out.trans (hb7.mono HB.out.size)); have HR7 := hidp (HR.out.below hb7 HR.out.lt); have H47 := hidp (H4.out.below hb7 H4.out.lt); have H57 := hidp (H5.out.below hb7 H5.out.lt)
    clear hb7 HB HR H4 H5
    go_wp2_with (first | (refine wpL_zeroG rfl rfl ?_) | (refine wpL_putR tyG rfl (.tmp 6) (.tmp 14) rfl b6 zG rfl rfl rfl (fun u hu => gz.one u hu) zG rfl HR7.out ?_; intro w9 ha9 hp9))
    have HBZ := hidp (hp9.below' HB7.out h6w.out)
    obtain ⟨fs, hu⟩ := tyG.ut
    refine bodyPost_ret (results_row_tmp (P := Tryd.prog) (p := 6) (u := 7) (ty := 27) Tryd.results5 _ _ b6 27 zG.toArray (0, 0) _ rfl ha9 hu rfl (tyG.size rfl) _ rfl) rfl ⟨by rw [HF.out, HE.out]; rfl, HBZ.out⟩
  | true =>
    have hc : ckB gs = 0 := by unfold ckB; rw [hok]; rfl
    have hn : gs.length ≤ 256 := by unfold okB at hok; rw [Bool.and_eq_true, decide_eq_true_eq] at hok; exact hok.1
    rw [hc] at ck
    have ci := hidp (fun W v (h : GsAt W v gs) p4 p5 (h4 : W.cell? ⟨p4, 0, none⟩ = some (.int .i64 s)) (h5 : W.cell? ⟨p5, 0, none⟩ = some (.int .i64 t)) => indexFunc_any W v gs h (by omega) (fdG s t) 15 #[.pointer (some ⟨p4, 0, none⟩), .pointer (some ⟨p5, 0, none⟩)] (enters_of Tryd.func15 (by kernel_rfl) rfl) (fun W' x hx hb => pred3 W p4 p5 s t h4 h5 W' x hx hb))
    obtain ⟨n, hnn⟩ : ∃ n, gs.length = n := ⟨_, rfl⟩
    have HN := hidp hnn
    rw [hnn] at HV hn ⊢
    by_cases hf : gs.findIdx (fdG s t) < gs.length
    · obtain ⟨i, hi⟩ : ∃ i, gs.findIdx (fdG s t) = i := ⟨_, rfl⟩
      have hil : i < gs.length := by rw [← hi]; exact hf
      obtain ⟨g, hg⟩ : ∃ g, gs[i] = g := ⟨_, rfl⟩
      have HF := hidp (show fiV gs s t = g from by unfold fiV; rw [hok, if_pos rfl, if_pos hf, hi, getD_at hil, hg])
      have HE := hidp (show fiE gs s t = 0 from by unfold fiE; rw [hok, if_pos rfl, if_pos hf])
      have hp : posP (fdG s t) gs = i := by unfold posP; rw [if_pos hf, hi]
      have hgok := hidp (show g.ok from by rw [← hg]; exact HV.out.2 _ (List.getElem_mem hil))
      obtain ⟨BK, off, c, e2, hcc, hBK0, hR0⟩ := HV.out.get (by omega)
      rw [hnn] at e2
      simp only [Value.slice.injEq] at e2
      obtain ⟨rfl, -, rfl⟩ := e2
      have HR0 := hidp (show w.rangeAt BK (off + 36 * i) g.row from by rw [← hg]; exact hR0 i hil)
      have hlt : i < n := by omega
      have eneg : decide ((i : Int) < 0) = false := by simp
      have eneg2 : ¬ (i : Int) < 0 := by omega
      rw [hp] at ci
      clear hc hok hf hi hg hp hR0 hil hcc hnn
      go_enter Tryd.func5, Tryd.ntmps5
      go_wp2_with (first
        | (refine wpL_boxI 3 rfl (.tmp 1) rfl (.int .i64 s) rfl rfl ?_; intro p4 w4 n4)
        | (refine wpL_boxI 2 rfl (.tmp 2) rfl (.int .i64 t) rfl rfl ?_; intro p5 w5 n5; have H4a := hidp (n5.old n4.arr); have H5a := hidp n5.arr; have HB5 := hidp (n4.below.trans (n5.below.mono n4.below.size)); clear n4 n5)
        | (refine wpL_newR tyG rfl rfl ?_; intro b6 w6 n6; have H4 := hidp (n6.old H4a.out); have H5 := hidp (n6.old H5a.out); have HB := hidp (HB5.out.trans (n6.below.mono HB5.out.size)); have HR := hidp n6.arr; have h6w := hidp (Nat.le_trans HB5.out.size n6.le); clear n6 H4a H5a HB5))
      refine (ck.out _ _ (HV.out.to HB.out)).mono ?_
      rintro e w7 ⟨rfl, hb7⟩
      have HB7 := hidp (HB.out.trans (hb7.mono HB.out.size)); have HR7 := hidp (HR.out.below hb7 HR.out.lt); have H47 := hidp (H4.out.below hb7 H4.out.lt); have H57 := hidp (H5.out.below hb7 H5.out.lt)
      clear hb7 HB HR H4 H5
      go_wp2_with fail
      refine (ci.out _ _ (HV.out.to HB7.out) p4 p5 (H47.out.cell 0 (by simp)) (H57.out.cell 0 (by simp))).mono ?_
      rintro e w8 ⟨rfl, hb8⟩
      have HB8 := hidp (HB7.out.trans (hb8.mono HB7.out.size)); have HR8 := hidp (HR7.out.below hb8 HR7.out.lt)
      have HR9 := hidp (rangeAt_below HR0.out HB8.out hBK0)
      clear hb8 HB7 HR7 H47 H57
      go_wp2_with (first | (refine wpL_idxR tyG rfl (.tmp 22) (.tmp 23) rfl BK off n _ i rfl rfl hlt ?_) | (refine wpL_atR tyG rfl (.tmp 24) rfl BK (off + 36 * i) g.row rfl (Gr.len hgok.out) HR9.out ?_) | (refine wpL_putR tyG rfl (.tmp 6) (.tmp 25) rfl b6 g.row rfl rfl (Gr.len hgok.out) (Gr.one g) zG rfl HR8.out ?_; intro w9 ha9 hp9))
      have HBZ := hidp (hp9.below' HB8.out h6w.out)
      obtain ⟨fs, hu⟩ := tyG.ut
      refine bodyPost_ret (results_row_tmp (P := Tryd.prog) (p := 6) (u := 7) (ty := 27) Tryd.results5 _ _ b6 27 g.row.toArray (0, 0) _ rfl ha9 hu rfl (tyG.size (Gr.len hgok.out)) _ rfl) rfl ⟨by rw [HF.out, HE.out]; rfl, HBZ.out⟩
    · have HF := hidp (show (fiV gs s t).row = zG from by unfold fiV; rw [hok, if_pos rfl, if_neg hf]; rfl)
      have HE := hidp (show fiE gs s t = 3 from by unfold fiE; rw [hok, if_pos rfl, if_neg hf])
      have hp : posP (fdG s t) gs = -1 := if_neg hf
      rw [hp] at ci
      clear hc hok hf hp hnn
      go_enter Tryd.func5, Tryd.ntmps5
      go_wp2_with (first
        | (refine wpL_boxI 3 rfl (.tmp 1) rfl (.int .i64 s) rfl rfl ?_; intro p4 w4 n4)
        | (refine wpL_boxI 2 rfl (.tmp 2) rfl (.int .i64 t) rfl rfl ?_; intro p5 w5 n5; have H4a := hidp (n5.old n4.arr); have H5a := hidp n5.arr; have HB5 := hidp (n4.below.trans (n5.below.mono n4.below.size)); clear n4 n5)
        | (refine wpL_newR tyG rfl rfl ?_; intro b6 w6 n6; have H4 := hidp (n6.old H4a.out); have H5 := hidp (n6.old H5a.out); have HB := hidp (HB5.out.trans (n6.below.mono HB5.out.size)); have HR := hidp n6.arr; have h6w := hidp (Nat.le_trans HB5.out.size n6.le); clear n6 H4a H5a HB5))
      refine (ck.out _ _ (HV.out.to HB.out)).mono ?_
      rintro e w7 ⟨rfl, hb7⟩
      have HB7 := hidp (HB.out.trans (hb7.mono HB.out.size)); have HR7 := hidp (HR.out.below hb7 HR.out.lt); have H47 := hidp (H4.out.below hb7 H4.out.lt); have H57 := hidp (H5.out.below hb7 H5.out.lt)
      clear hb7 HB HR H4 H5
      go_wp2_with fail
      refine (ci.out _ _ (HV.out.to HB7.out) p4 p5 (H47.out.cell 0 (by simp)) (H57.out.cell 0 (by simp))).mono ?_
      rintro e w8 ⟨rfl, hb8⟩
      have HB8 := hidp (HB7.out.trans (hb8.mono HB7.out.size)); have HR8 := hidp (HR7.out.below hb8 HR7.out.lt)
      clear hb8 HB7 HR7 H47 H57
      go_wp2_with (first | (refine wpL_zeroG rfl rfl ?_) | (refine wpL_putR tyG rfl (.tmp 6) (.tmp 21) rfl b6 zG rfl rfl rfl (fun u hu => gz.one u hu) zG rfl HR8.out ?_; intro w9 ha9 hp9))
      have HBZ := hidp (hp9.below' HB8.out h6w.out)
      obtain ⟨fs, hu⟩ := tyG.ut
      refine bodyPost_ret (results_row_tmp (P := Tryd.prog) (p := 6) (u := 7) (ty := 27) Tryd.results5 _ _ b6 27 zG.toArray (0, 0) _ rfl ha9 hu rfl (tyG.size rfl) _ rfl) rfl ⟨by rw [HF.out, HE.out]; rfl, HBZ.out⟩

/-- What a book's verification tells. -/
def bvE (gs : List Gr) (s t : Int) (x g : ByteArray) : Int := if fiE gs s t = 0 then vfE (fiV gs s t).r (fiV gs s t).h x g else fiE gs s t
set_option maxHeartbeats 16000000 in
theorem bverify_any (w : World) (v : Value) (gs : List Gr) (hv : GsAt w v gs) (s t : Int) (x g : ByteArray) (hx : x.size ≤ 281474976710656) (hg : g.size ≤ 281474976710656) (hK : KT w) :
    Calls Tryd.prog 7 #[v, .int .i64 s, .int .i64 t, .string x, .string g] w fun e w' => e = .returned (.int .i64 (bvE gs s t x g)) ∧ Below w.heap.size w w' := by
  have HK := hidp hK; have hkp := hK.pos; clear hK
  have cf := bfind_any w v gs hv s t
  have hok := hidp (fiV_ok hv.2 s t)
  have hbv : bvE gs s t x g = if fiE gs s t = 0 then vfE (fiV gs s t).r (fiV gs s t).h x g else fiE gs s t := rfl
  obtain ⟨E, hE⟩ : ∃ E, fiE gs s t = E := ⟨_, rfl⟩
  obtain ⟨G, hG⟩ : ∃ E, fiV gs s t = E := ⟨_, rfl⟩
  rw [hE, hG] at cf hbv
  rw [hG] at hok
  obtain ⟨R, hR⟩ : ∃ R, bvE gs s t x g = R := ⟨_, rfl⟩
  rw [hR] at hbv ⊢
  clear hE hG hR hv
  by_cases h0 : E = 0
  · rw [if_pos h0] at hbv
    have cv := hidp (fun W (k : KT W) => verify_any W G.r hok.out G.h x g hx hg k)
    rw [← hbv] at cv
    subst h0
    go_enter Tryd.func7, Tryd.ntmps7
    go_wp2_with fail
    refine cf.mono ?_
    rintro e w1 ⟨rfl, hb1⟩
    have HB1 := hidp hb1; clear hb1 cf hbv
    go_wp2_with (first | (refine wpL_newR tyG rfl rfl ?_; intro b2 w2 n2; have HB2 := hidp (HB1.out.trans (n2.below.mono HB1.out.size)); have h2w := hidp (Nat.le_trans HB1.out.size n2.le)) | (refine wpL_putR tyG rfl (.tmp 11) (.tmp 18) rfl b2 G.row rfl rfl (Gr.len hok.out) (Gr.one G) zG rfl n2.arr ?_; intro w3 ha hp; have HA := hidp ha; have HB3 := hidp (hp.below' HB2.out h2w.out); clear ha hp n2; obtain ⟨x0, x1, x2, x3⟩ := gr_cells HA.out; have HH := hidp (gr_hash HA.out.range)) | (refine wpL_at rfl (.tmp 23) rfl b2 4 G.r rfl hok.out (by simpa using HH.out) ?_))
    clear x0 x1 x2 x3
    refine (cv.out _ (HK.out.below HB3.out hkp)).mono ?_
    rintro e w4 ⟨rfl, hb4⟩
    have HB4 := hidp (HB3.out.trans (hb4.mono HB3.out.size)); clear hb4
    go_wp2_with fail
    go_ret
    exact ⟨rfl, HB4.out⟩
  · rw [if_neg h0] at hbv
    subst hbv
    have e0 : (R != 0) = true := by simpa using h0
    have e1 : (R == 0) = false := by simpa using h0
    go_enter Tryd.func7, Tryd.ntmps7
    go_wp2_with fail
    refine cf.mono ?_
    rintro e w1 ⟨rfl, hb1⟩
    have HB1 := hidp hb1; clear hb1 cf
    go_wp2_with (first | (refine wpL_newR tyG rfl rfl ?_; intro b2 w2 n2; have HB2 := hidp (HB1.out.trans (n2.below.mono HB1.out.size)); have h2w := hidp (Nat.le_trans HB1.out.size n2.le)) | (refine wpL_putR tyG rfl (.tmp 11) (.tmp 18) rfl b2 G.row rfl rfl (Gr.len hok.out) (Gr.one G) zG rfl n2.arr ?_; intro w3 ha hp; have HB3 := hidp (hp.below' HB2.out h2w.out); clear ha hp n2))
    go_ret
    exact ⟨rfl, HB3.out⟩

/-- A book with one more grant. -/
def adL (gs : List Gr) (g : Gr) : List Gr :=
  if okB gs = true then (if vG g = true then (if gs.length = 256 then gs else if 0 ≤ posP (fun x => mt x g) gs then gs else gs.take (gs.findIdx fun x => fol x g) ++ [g] ++ gs.drop (gs.findIdx fun x => fol x g)) else gs) else []
def adE (gs : List Gr) (g : Gr) : Int :=
  if okB gs = true then (if vG g = true then (if gs.length = 256 then 8 else if 0 ≤ posP (fun x => mt x g) gs then 4 else 0) else 2) else 2
theorem rows_ins (gs : List Gr) (g : Gr) (i : Nat) : rows (gs.take i ++ [g] ++ gs.drop i) = (rows gs).take i ++ [g.row] ++ (rows gs).drop i := by simp [rows, List.map_take, List.map_drop]
set_option maxHeartbeats 16000000 in
theorem badd_any (w : World) (v : Value) (gs : List Gr) (hv : GsAt w v gs) (g : Gr) (hgok : g.ok) :
    Calls Tryd.prog 9 #[v, .agg g.row.toArray] w fun e w' => ∃ v', e = .returned (.tuple #[v', .int .i64 (adE gs g)]) ∧ OwnR 27 36 w' w.heap.size v' (rows (adL gs g)) ∧ Below w.heap.size w w' := by
  have HV := hidp hv; clear hv
  have ck := hidp (fun W v (h : GsAt W v gs) => bcheck_any W v gs h)
  have cv := hidp (fun W => valid_any W g)
  obtain ⟨av, cv0, rfl⟩ := HV.out.form
  obtain ⟨n, hnn⟩ : ∃ n, gs.length = n := ⟨_, rfl⟩
  have HN := hidp hnn
  rw [hnn] at HV ⊢
  cases hok : okB gs with
  | false =>
    have hc : ckB gs = 2 := by unfold ckB; rw [hok]; rfl
    have HF := hidp (show rows (adL gs g) = [] from by unfold adL; rw [hok]; rfl)
    have hE : adE gs g = 2 := by unfold adE; rw [hok]; rfl
    rw [hc] at ck
    rw [hE]
    clear hc hok hE hnn
    go_enter Tryd.func9, Tryd.ntmps9
    go_wp2_with (refine wpL_boxR 27 rfl (.tmp 1) rfl g.row rfl ?_; intro b3 w3 n3; have HA := hidp n3.arr; have HB := hidp n3.below; clear n3)
    refine (ck.out _ _ (HV.out.to HB.out)).mono ?_
    rintro e w4 ⟨rfl, hb4⟩
    have HB4 := hidp (HB.out.trans (hb4.mono HB.out.size)); have HA4 := hidp (HA.out.below hb4 HA.out.lt)
    clear hb4 HB HA
    go_wp2_with fail
    go_ret2
    exact ⟨_, rfl, by rw [HF.out]; exact OwnR.nil _ _, HB4.out⟩
  | true =>
    have hc : ckB gs = 0 := by unfold ckB; rw [hok]; rfl
    have hn : gs.length ≤ 256 := by unfold okB at hok; rw [Bool.and_eq_true, decide_eq_true_eq] at hok; exact hok.1
    rw [hc] at ck
    have cc := hidp (fun W v (h : GsAt W v gs) => clone_any W v gs h (by omega))
    cases hvg : vG g with
    | false =>
      have HF := hidp (show adL gs g = gs from by unfold adL; rw [hok, hvg]; rfl)
      have hE : adE gs g = 2 := by unfold adE; rw [hok, hvg]; rfl
      rw [hvg] at cv
      rw [hE]
      clear hc hok hE hvg hnn
      go_enter Tryd.func9, Tryd.ntmps9
      go_wp2_with (refine wpL_boxR 27 rfl (.tmp 1) rfl g.row rfl ?_; intro b3 w3 n3; have HA := hidp n3.arr; have HB := hidp n3.below; clear n3)
      refine (ck.out _ _ (HV.out.to HB.out)).mono ?_
      rintro e w4 ⟨rfl, hb4⟩
      have HB4 := hidp (HB.out.trans (hb4.mono HB.out.size)); have HA4 := hidp (HA.out.below hb4 HA.out.lt)
      clear hb4 HB HA
      go_wp2_with fail
      refine (cc.out _ _ (HV.out.to HB4.out)).mono ?_
      rintro e w5 ⟨v5, rfl, ho, hb⟩
      have HB5 := hidp (HB4.out.trans (hb.mono HB4.out.size)); have HA5 := hidp (HA4.out.below hb HA4.out.lt)
      have HO5 := hidp (ho.base (C := w.heap.size) HB4.out.size)
      clear ho
      clear hb HB4 HA4
      go_wp2_with (refine wpL_getR tyG rfl (.tmp 3) rfl b3 g.row rfl (Gr.len hgok) HA5.out ?_)
      refine (cv.out _).mono ?_
      rintro e w6 ⟨rfl, hb⟩
      have HB6 := hidp (HB5.out.trans (hb.mono HB5.out.size)); have HA6 := hidp (HA5.out.below hb HA5.out.lt)
      have HO6 := hidp (HO5.out.to hb (Nat.le_refl _))
      clear hb HB5 HA5 HO5
      go_wp2_with fail
      go_ret2
      exact ⟨_, rfl, by rw [HF.out]; exact HO6.out, HB6.out⟩
    | true =>
      rw [hvg] at cv
      by_cases h256 : n = 256
      · have HF := hidp (show adL gs g = gs from by unfold adL; rw [hok, hvg, if_pos rfl, if_pos rfl, if_pos (by omega)])
        have hE : adE gs g = 8 := by unfold adE; rw [hok, hvg, if_pos rfl, if_pos rfl, if_pos (by omega)]
        have e256 : ((n : Int) == 256) = true := by simp; omega
        rw [hE]
        clear hc hok hE hvg hnn h256
        go_enter Tryd.func9, Tryd.ntmps9
        go_wp2_with (refine wpL_boxR 27 rfl (.tmp 1) rfl g.row rfl ?_; intro b3 w3 n3; have HA := hidp n3.arr; have HB := hidp n3.below; clear n3)
        refine (ck.out _ _ (HV.out.to HB.out)).mono ?_
        rintro e w4 ⟨rfl, hb4⟩
        have HB4 := hidp (HB.out.trans (hb4.mono HB.out.size)); have HA4 := hidp (HA.out.below hb4 HA.out.lt)
        clear hb4 HB HA
        go_wp2_with fail
        refine (cc.out _ _ (HV.out.to HB4.out)).mono ?_
        rintro e w5 ⟨v5, rfl, ho, hb⟩
        have HB5 := hidp (HB4.out.trans (hb.mono HB4.out.size)); have HA5 := hidp (HA4.out.below hb HA4.out.lt)
        have HO5 := hidp (ho.base (C := w.heap.size) HB4.out.size)
        clear ho
        clear hb HB4 HA4
        go_wp2_with (refine wpL_getR tyG rfl (.tmp 3) rfl b3 g.row rfl (Gr.len hgok) HA5.out ?_)
        refine (cv.out _).mono ?_
        rintro e w6 ⟨rfl, hb⟩
        have HB6 := hidp (HB5.out.trans (hb.mono HB5.out.size)); have HA6 := hidp (HA5.out.below hb HA5.out.lt)
        have HO6 := hidp (HO5.out.to hb (Nat.le_refl _))
        clear hb HB5 HA5 HO5
        go_wp2_with fail
        go_ret2
        exact ⟨_, rfl, by rw [HF.out]; exact HO6.out, HB6.out⟩
      · have e256 : ((n : Int) == 256) = false := by simp; omega
        have n256 : ¬ n = 256 := h256
        have cm := hidp (fun W v (h : GsAt W v gs) b3 (hA : Arr W b3 27 g.row) => containsFunc_any W v gs h (by omega) (fun x => mt x g) 22 #[.pointer (some ⟨b3, 0, none⟩)] (enters_of Tryd.func22 (by kernel_rfl) rfl) (fun W' x hx hb => pred1 W b3 g hgok hA W' x hx hb))
        by_cases hm : 0 ≤ posP (fun x => mt x g) gs
        · have HF := hidp (show adL gs g = gs from by unfold adL; rw [hok, hvg, if_pos rfl, if_pos rfl, if_neg (by omega), if_pos hm])
          have hE : adE gs g = 4 := by unfold adE; rw [hok, hvg, if_pos rfl, if_pos rfl, if_neg (by omega), if_pos hm]
          rw [decide_eq_true hm] at cm
          rw [hE]
          clear hc hok hE hvg hm hnn
          go_enter Tryd.func9, Tryd.ntmps9
          go_wp2_with (refine wpL_boxR 27 rfl (.tmp 1) rfl g.row rfl ?_; intro b3 w3 n3; have HA := hidp n3.arr; have HB := hidp n3.below; clear n3)
          refine (ck.out _ _ (HV.out.to HB.out)).mono ?_
          rintro e w4 ⟨rfl, hb4⟩
          have HB4 := hidp (HB.out.trans (hb4.mono HB.out.size)); have HA4 := hidp (HA.out.below hb4 HA.out.lt)
          clear hb4 HB HA
          go_wp2_with fail
          refine (cc.out _ _ (HV.out.to HB4.out)).mono ?_
          rintro e w5 ⟨v5, rfl, ho, hb⟩
          have HB5 := hidp (HB4.out.trans (hb.mono HB4.out.size)); have HA5 := hidp (HA4.out.below hb HA4.out.lt)
          have HO5 := hidp (ho.base (C := w.heap.size) HB4.out.size)
          clear ho
          clear hb HB4 HA4
          go_wp2_with (refine wpL_getR tyG rfl (.tmp 3) rfl b3 g.row rfl (Gr.len hgok) HA5.out ?_)
          refine (cv.out _).mono ?_
          rintro e w6 ⟨rfl, hb⟩
          have HB6 := hidp (HB5.out.trans (hb.mono HB5.out.size)); have HA6 := hidp (HA5.out.below hb HA5.out.lt)
          have HO6 := hidp (HO5.out.to hb (Nat.le_refl _))
          clear hb HB5 HA5 HO5
          go_wp2_with fail
          refine (cm.out _ _ (HV.out.to HB6.out) b3 HA6.out).mono ?_
          rintro e w7 ⟨rfl, hb⟩
          have HB7 := hidp (HB6.out.trans (hb.mono HB6.out.size)); have HA7 := hidp (HA6.out.below hb HA6.out.lt)
          have HO7 := hidp (HO6.out.to hb (Nat.le_refl _))
          clear hb HB6 HA6 HO6
          go_wp2_with fail
          go_ret2
          exact ⟨_, rfl, by rw [HF.out]; exact HO7.out, HB7.out⟩
        · have hE : adE gs g = 0 := by unfold adE; rw [hok, hvg, if_pos rfl, if_pos rfl, if_neg (by omega), if_neg hm]
          have cf := hidp (fun W v (h : GsAt W v gs) b3 (hA : Arr W b3 27 g.row) => indexFunc_any W v gs h (by omega) (fun x => fol x g) 24 #[.pointer (some ⟨b3, 0, none⟩)] (enters_of Tryd.func24 (by kernel_rfl) rfl) (fun W' x hx hb => pred2 W b3 g hgok hA W' x hx hb))
          obtain ⟨i, hi⟩ : ∃ i, (gs.findIdx fun x => fol x g) = i := ⟨_, rfl⟩
          have hil : i ≤ n := by rw [← hi, ← hnn]; exact List.findIdx_le_length
          have HF := hidp (show rows (adL gs g) = (rows gs).take i ++ [g.row] ++ (rows gs).drop i from by unfold adL; rw [hok, hvg, if_pos rfl, if_pos rfl, if_neg (by omega), if_neg hm, hi, rows_ins])
          have hrl := rows_len gs
          have HO1 := hidp (rows_one gs)
          rw [decide_eq_false hm] at cm
          rw [hE]
          by_cases hin : i < n
          · have hp : posP (fun x => fol x g) gs = i := by unfold posP; rw [hi, if_pos (by omega)]
            rw [hp] at cf
            have eneg : decide ((i : Int) < 0) = false := by simp
            have eneg2 : ¬ (i : Int) < 0 := by omega
            clear hc hok hE hvg hm hp hi
            go_enter Tryd.func9, Tryd.ntmps9
            go_wp2_with (refine wpL_boxR 27 rfl (.tmp 1) rfl g.row rfl ?_; intro b3 w3 n3; have HA := hidp n3.arr; have HB := hidp n3.below; clear n3)
            refine (ck.out _ _ (HV.out.to HB.out)).mono ?_
            rintro e w4 ⟨rfl, hb4⟩
            have HB4 := hidp (HB.out.trans (hb4.mono HB.out.size)); have HA4 := hidp (HA.out.below hb4 HA.out.lt)
            clear hb4 HB HA
            go_wp2_with fail
            refine (cc.out _ _ (HV.out.to HB4.out)).mono ?_
            rintro e w5 ⟨v5, rfl, ho, hb⟩
            have HB5 := hidp (HB4.out.trans (hb.mono HB4.out.size)); have HA5 := hidp (HA4.out.below hb HA4.out.lt)
            have HO5 := hidp (ho.base (C := w.heap.size) HB4.out.size)
            clear ho
            clear hb HB4 HA4
            go_wp2_with (refine wpL_getR tyG rfl (.tmp 3) rfl b3 g.row rfl (Gr.len hgok) HA5.out ?_)
            refine (cv.out _).mono ?_
            rintro e w6 ⟨rfl, hb⟩
            have HB6 := hidp (HB5.out.trans (hb.mono HB5.out.size)); have HA6 := hidp (HA5.out.below hb HA5.out.lt)
            have HO6 := hidp (HO5.out.to hb (Nat.le_refl _))
            clear hb HB5 HA5 HO5
            go_wp2_with fail
            refine (cm.out _ _ (HV.out.to HB6.out) b3 HA6.out).mono ?_
            rintro e w7 ⟨rfl, hb⟩
            have HB7 := hidp (HB6.out.trans (hb.mono HB6.out.size)); have HA7 := hidp (HA6.out.below hb HA6.out.lt)
            have HO7 := hidp (HO6.out.to hb (Nat.le_refl _))
            clear hb HB6 HA6 HO6
            go_wp2_with fail
            refine (cf.out _ _ (HV.out.to HB7.out) b3 HA7.out).mono ?_
            rintro e w8 ⟨rfl, hb⟩
            have HB8 := hidp (HB7.out.trans (hb.mono HB7.out.size)); have HA8 := hidp (HA7.out.below hb HA7.out.lt)
            have HO8 := hidp (HO7.out.to hb (Nat.le_refl _))
            clear hb HB7 HA7 HO7
            have hob := hidp (show ∀ k, v5.ownBlock = some k → k < w8.heap.size from fun k hk => (World.ownsRow.lt HO8.out.2 k hk).2)
            go_wp2_with (first | (refine wpL_getR tyG rfl (.tmp 3) rfl b3 g.row rfl (Gr.len hgok) HA8.out ?_) | (refine wpL_bs1R tyG rfl (.tmp 37) rfl g.row rfl (Gr.len hgok) ?_; intro b9 w9 n9; have HO9 := hidp (HO8.out.to n9.below (Nat.le_refl _)); have HB9 := hidp (HB8.out.trans (n9.below.mono HB8.out.size)); have HX9 := hidp n9.arr; have hne9 := hidp (show v5.ownBlock ≠ some b9 from fun h => by have := hob.out _ h; have := n9.at_; omega); clear n9))
            refine (insert_own _ w.heap.size v5 (rows gs) b9 g.row i HO9.out HO1.out HX9.out (Gr.len hgok) (Gr.one g) hne9.out (by omega) (by omega) HB9.out.size).mono ?_
            rintro e w10 ⟨v10, rfl, ho, hb⟩
            have HO10 := hidp ho; have HB10 := hidp (HB9.out.trans hb)
            clear ho hb
            go_wp2_with fail
            go_ret2
            exact ⟨_, rfl, by rw [HF.out]; exact HO10.out, HB10.out⟩
          · have hp : posP (fun x => fol x g) gs = -1 := by unfold posP; rw [hi, if_neg (by omega)]
            have hii := hidp (show n = i from by omega)
            rw [hp] at cf
            clear hc hok hE hvg hm hp hi
            go_enter Tryd.func9, Tryd.ntmps9
            go_wp2_with (refine wpL_boxR 27 rfl (.tmp 1) rfl g.row rfl ?_; intro b3 w3 n3; have HA := hidp n3.arr; have HB := hidp n3.below; clear n3)
            refine (ck.out _ _ (HV.out.to HB.out)).mono ?_
            rintro e w4 ⟨rfl, hb4⟩
            have HB4 := hidp (HB.out.trans (hb4.mono HB.out.size)); have HA4 := hidp (HA.out.below hb4 HA.out.lt)
            clear hb4 HB HA
            go_wp2_with fail
            refine (cc.out _ _ (HV.out.to HB4.out)).mono ?_
            rintro e w5 ⟨v5, rfl, ho, hb⟩
            have HB5 := hidp (HB4.out.trans (hb.mono HB4.out.size)); have HA5 := hidp (HA4.out.below hb HA4.out.lt)
            have HO5 := hidp (ho.base (C := w.heap.size) HB4.out.size)
            clear ho
            clear hb HB4 HA4
            go_wp2_with (refine wpL_getR tyG rfl (.tmp 3) rfl b3 g.row rfl (Gr.len hgok) HA5.out ?_)
            refine (cv.out _).mono ?_
            rintro e w6 ⟨rfl, hb⟩
            have HB6 := hidp (HB5.out.trans (hb.mono HB5.out.size)); have HA6 := hidp (HA5.out.below hb HA5.out.lt)
            have HO6 := hidp (HO5.out.to hb (Nat.le_refl _))
            clear hb HB5 HA5 HO5
            go_wp2_with fail
            refine (cm.out _ _ (HV.out.to HB6.out) b3 HA6.out).mono ?_
            rintro e w7 ⟨rfl, hb⟩
            have HB7 := hidp (HB6.out.trans (hb.mono HB6.out.size)); have HA7 := hidp (HA6.out.below hb HA6.out.lt)
            have HO7 := hidp (HO6.out.to hb (Nat.le_refl _))
            clear hb HB6 HA6 HO6
            go_wp2_with fail
            refine (cf.out _ _ (HV.out.to HB7.out) b3 HA7.out).mono ?_
            rintro e w8 ⟨rfl, hb⟩
            have HB8 := hidp (HB7.out.trans (hb.mono HB7.out.size)); have HA8 := hidp (HA7.out.below hb HA7.out.lt)
            have HO8 := hidp (HO7.out.to hb (Nat.le_refl _))
            clear hb HB7 HA7 HO7
            have hob := hidp (show ∀ k, v5.ownBlock = some k → k < w8.heap.size from fun k hk => (World.ownsRow.lt HO8.out.2 k hk).2)
            go_wp2_with (first | (refine wpL_getR tyG rfl (.tmp 3) rfl b3 g.row rfl (Gr.len hgok) HA8.out ?_) | (refine wpL_bs1R tyG rfl (.tmp 37) rfl g.row rfl (Gr.len hgok) ?_; intro b9 w9 n9; have HO9 := hidp (HO8.out.to n9.below (Nat.le_refl _)); have HB9 := hidp (HB8.out.trans (n9.below.mono HB8.out.size)); have HX9 := hidp n9.arr; have hne9 := hidp (show v5.ownBlock ≠ some b9 from fun h => by have := hob.out _ h; have := n9.at_; omega); clear n9))
            refine (insert_own _ w.heap.size v5 (rows gs) b9 g.row n HO9.out HO1.out HX9.out (Gr.len hgok) (Gr.one g) hne9.out (by omega) (by omega) HB9.out.size).mono ?_
            rintro e w10 ⟨v10, rfl, ho, hb⟩
            have HO10 := hidp ho; have HB10 := hidp (HB9.out.trans hb)
            clear ho hb
            go_wp2_with fail
            go_ret2
            exact ⟨_, rfl, by rw [HF.out, ← hii.out]; exact HO10.out, HB10.out⟩
end Go.Proofs.YtbgooppmhgaicaaDoor

namespace Go.Proofs.YtbgooppmhgaicaaDoor
set_option maxRecDepth 100000
set_option linter.unusedVariables false
set_option linter.unusedSimpArgs false
open Go.RowKit Rw
theorem Rt.Stp.old {w W : World} {b c t : Nat} {xs : List Value} (h : Rt.Stp b w W) (ha : Arr w c t xs) (hc : c < b) : Arr W c t xs := h.arr (by omega) ha


set_option maxHeartbeats 16000000 in
theorem rbfind_any (w : World) (v : Value) (gs : List Gr) (hv : GsAt w v gs) (s t : Int) :
    Calls Tryd.prog 6 #[v, .int .i64 s, .int .i64 t] w fun e w' => e = .returned (.tuple #[.agg (fiV gs s t).row.toArray, .int .i64 (fiE gs s t)]) ∧ Below w.heap.size w w' := by
  have HV := hidp hv; clear hv
  have ck := hidp (fun W v (h : GsAt W v gs) => rbcheck_any W v gs h)
  obtain ⟨av, cv, rfl⟩ := HV.out.form
  cases hok : okB gs with
  | false =>
    have hc : ckB gs = 2 := by unfold ckB; rw [hok]; rfl
    have HF := hidp (show (fiV gs s t).row = zG from by unfold fiV; rw [hok]; rfl)
    have HE := hidp (show fiE gs s t = 2 from by unfold fiE; rw [hok]; rfl)
    rw [hc] at ck
    clear hc hok
    go_enter Tryd.func6, Tryd.ntmps6
    go_wp2_with (refine wpL_newR tyG rfl rfl ?_; intro b6 w6 n6; have HB6 := hidp n6.below; have HR6 := hidp n6.arr; have h6w := hidp n6.le; clear n6)
    refine (ck.out _ _ (HV.out.to HB6.out)).mono ?_
    rintro e w7 ⟨rfl, hb7⟩
    have HB7 := hidp (HB6.out.trans (hb7.mono HB6.out.size)); have HR7 := hidp (HR6.out.below hb7 HR6.out.lt)
    clear hb7 HB6 HR6
    go_wp2_with (first | (refine wpL_zeroG rfl rfl ?_) | (refine wpL_putR tyG rfl (.tmp 6) (.tmp 13) rfl b6 zG rfl rfl rfl (fun u hu => gz.one u hu) zG rfl HR7.out ?_; intro w9 ha9 hp9))
    have HBZ := hidp (hp9.below' HB7.out h6w.out)
    obtain ⟨fs, hu⟩ := tyG.ut
    refine bodyPost_ret (results_row_tmp (P := Tryd.prog) (p := 6) (u := 7) (ty := 27) Tryd.results6 _ _ b6 27 zG.toArray (0, 0) _ rfl ha9 hu rfl (tyG.size rfl) _ rfl) rfl ⟨by rw [HF.out, HE.out]; rfl, HBZ.out⟩
  | true =>
    have hc : ckB gs = 0 := by unfold ckB; rw [hok]; rfl
    have HOKB := hidp hok
    have hn256 : gs.length ≤ 256 := by unfold okB at hok; rw [Bool.and_eq_true, decide_eq_true_eq] at hok; exact hok.1
    rw [hc] at ck
    obtain ⟨n, hnn⟩ : ∃ n, gs.length = n := ⟨_, rfl⟩
    have HN := hidp hnn
    rw [hnn] at HV hn256 ⊢
    clear hc hok hnn
    go_enter Tryd.func6, Tryd.ntmps6
    go_wp2_with (refine wpL_newR tyG rfl rfl ?_; intro b6 w6 n6; have HB6 := hidp n6.below; have HR6 := hidp n6.arr; have h6w := hidp n6.le; clear n6)
    refine (ck.out _ _ (HV.out.to HB6.out)).mono ?_
    rintro e w7 ⟨rfl, hb7⟩
    have HB7 := hidp (HB6.out.trans (hb7.mono HB6.out.size)); have HR7 := hidp (HR6.out.below hb7 HR6.out.lt)
    clear hb7 HB6 HR6
    go_wp2_with fail
    go_loopw [16] (fun t16 wr => ∃ i : Nat, t16 = .int .i64 (i : Int) ∧ i ≤ n ∧ Hid (∀ j, j < i → (hj : j < gs.length) → fdG s t gs[j] = false) ∧ Arr wr b6 27 zG ∧ Below w.heap.size w wr) (fun t16 _ => n - (intOf t16).toNat)
    case atStart => exact ⟨0, rfl, by omega, hidp (fun j h => absurd h (Nat.not_lt_zero _)), HR7.out, HB7.out⟩
    case round =>
      obtain ⟨i, rfl, hi, HOK, hz, hb⟩ := hrel
      have HB := hidp hb; have HZ := hidp hz
      clear hb hz HB7 HR7
      by_cases hlt : i < n
      · have e1 : decide ((i : Int) < (n : Int)) = true := by simp; omega
        have hgl : i < gs.length := by rw [HN.out]; exact hlt
        obtain ⟨BK, off, c, e2, hc, hBK0, hR0⟩ := HV.out.get (by rw [HN.out]; omega)
        rw [HN.out] at e2
        simp only [Value.slice.injEq] at e2
        obtain ⟨rfl, -, rfl⟩ := e2
        obtain ⟨g, hge⟩ : ∃ g, gs[i] = g := ⟨_, rfl⟩
        have HGE := hidp hge
        have HRI := hidp (show wr.rangeAt BK (off + 36 * i) g.row from by rw [← hge]; exact rangeAt_below (hR0 i hgl) HB.out hBK0)
        have hgok := hidp (show g.ok from by rw [← hge]; exact HV.out.2 _ (List.getElem_mem hgl))
        clear hR0 hc hge
        have hmiss : fdG s t g = false → Hid (∀ j, j < i + 1 → (hj : j < gs.length) → fdG s t gs[j] = false) := fun hq => hidp (fun j h hj => by
          rcases (by omega : j < i ∨ j = i) with h | rfl
          · exact HOK.out j h hj
          · rw [HGE.out]; exact hq)
        by_cases c0 : g.s = s
        · have d0 : (g.s == s) = true := by simp [c0]
          by_cases c1 : g.f ≤ t
          · have d1 : decide (g.f ≤ t) = true := decide_eq_true c1
            by_cases c2 : t ≤ g.t
            · have d2 : decide (t ≤ g.t) = true := decide_eq_true c2
              have hfi : gs.findIdx (fdG s t) = i := (List.findIdx_eq hgl).2 ⟨by rw [HGE.out]; unfold fdG; simp [c0, c1, c2], fun j hj => HOK.out j hj (by omega)⟩
              have HF := hidp (show fiV gs s t = g from by unfold fiV; rw [HOKB.out, if_pos rfl, hfi, if_pos hgl, getD_at hgl, HGE.out])
              have HE := hidp (show fiE gs s t = 0 from by unfold fiE; rw [HOKB.out, if_pos rfl, hfi, if_pos hgl])
              clear hfi hmiss c0
              go_wp2_with (first | (refine wpL_idxR tyG rfl (.tmp 14) (.tmp 16) rfl BK off n _ i rfl rfl hlt ?_) | (refine wpL_atR tyG rfl (.tmp 18) rfl BK (off + 36 * i) g.row rfl (Gr.len hgok.out) HRI.out ?_) | (refine wpL_newR tyG rfl rfl ?_; intro p9 wq1 n1; have HB1 := hidp (HB.out.trans (n1.below.mono HB.out.size)); have hbw := hidp (Nat.le_trans HB.out.size n1.le); have HZ1 := hidp (n1.old HZ.out); have hz9 := hidp (show b6 < p9 from by have := n1.at_; have := HZ.out.lt; omega)) | (refine wpL_putR tyG rfl (.tmp 9) (.tmp 19) rfl p9 g.row rfl rfl (Gr.len hgok.out) (Gr.one g) zG rfl n1.arr ?_; intro wq2 ha hp; have HA2 := hidp ha; have HB2 := hidp (hp.below' HB1.out hbw.out); have HZ2 := hidp (hp.old HZ1.out hz9.out); clear ha hp n1 HB1 HZ1; obtain ⟨x0, x1, x2, x3⟩ := gr_cells HA2.out) | (refine wpL_getR tyG rfl (.tmp 9) rfl p9 g.row rfl (Gr.len hgok.out) HA2.out ?_) | (refine wpL_putR tyG rfl (.tmp 6) (.tmp 36) rfl b6 g.row rfl rfl (Gr.len hgok.out) (Gr.one g) zG rfl HZ2.out ?_; intro w9 ha9 hp9))
              have HBZ := hidp (hp9.below' HB2.out h6w.out)
              obtain ⟨fs, hu⟩ := tyG.ut
              refine bodyPost_ret (results_row_tmp (P := Tryd.prog) (p := 6) (u := 7) (ty := 27) Tryd.results6 _ _ b6 27 g.row.toArray (0, 0) _ rfl ha9 hu rfl (tyG.size (Gr.len hgok.out)) _ rfl) rfl ⟨by rw [HF.out, HE.out]; rfl, HBZ.out⟩
            · have d2 : decide (t ≤ g.t) = false := decide_eq_false c2
              have HOK2 := hmiss (by unfold fdG; simp [c2])
              clear hmiss c0
              go_wp2_with (first | (refine wpL_idxR tyG rfl (.tmp 14) (.tmp 16) rfl BK off n _ i rfl rfl hlt ?_) | (refine wpL_atR tyG rfl (.tmp 18) rfl BK (off + 36 * i) g.row rfl (Gr.len hgok.out) HRI.out ?_) | (refine wpL_newR tyG rfl rfl ?_; intro p9 wq1 n1; have HB1 := hidp (HB.out.trans (n1.below.mono HB.out.size)); have hbw := hidp (Nat.le_trans HB.out.size n1.le); have HZ1 := hidp (n1.old HZ.out); have hz9 := hidp (show b6 < p9 from by have := n1.at_; have := HZ.out.lt; omega)) | (refine wpL_putR tyG rfl (.tmp 9) (.tmp 19) rfl p9 g.row rfl rfl (Gr.len hgok.out) (Gr.one g) zG rfl n1.arr ?_; intro wq2 ha hp; have HA2 := hidp ha; have HB2 := hidp (hp.below' HB1.out hbw.out); have HZ2 := hidp (hp.old HZ1.out hz9.out); clear ha hp n1 HB1 HZ1; obtain ⟨x0, x1, x2, x3⟩ := gr_cells HA2.out))
              exact ⟨⟨i + 1, by go_num, by omega, HOK2, HZ2.out, HB2.out⟩, by simp [intOf]; omega⟩
          · have d1 : decide (g.f ≤ t) = false := decide_eq_false c1
            have HOK2 := hmiss (by unfold fdG; simp [c1])
            clear hmiss c0
            go_wp2_with (first | (refine wpL_idxR tyG rfl (.tmp 14) (.tmp 16) rfl BK off n _ i rfl rfl hlt ?_) | (refine wpL_atR tyG rfl (.tmp 18) rfl BK (off + 36 * i) g.row rfl (Gr.len hgok.out) HRI.out ?_) | (refine wpL_newR tyG rfl rfl ?_; intro p9 wq1 n1; have HB1 := hidp (HB.out.trans (n1.below.mono HB.out.size)); have hbw := hidp (Nat.le_trans HB.out.size n1.le); have HZ1 := hidp (n1.old HZ.out); have hz9 := hidp (show b6 < p9 from by have := n1.at_; have := HZ.out.lt; omega)) | (refine wpL_putR tyG rfl (.tmp 9) (.tmp 19) rfl p9 g.row rfl rfl (Gr.len hgok.out) (Gr.one g) zG rfl n1.arr ?_; intro wq2 ha hp; have HA2 := hidp ha; have HB2 := hidp (hp.below' HB1.out hbw.out); have HZ2 := hidp (hp.old HZ1.out hz9.out); clear ha hp n1 HB1 HZ1; obtain ⟨x0, x1, x2, x3⟩ := gr_cells HA2.out))
            exact ⟨⟨i + 1, by go_num, by omega, HOK2, HZ2.out, HB2.out⟩, by simp [intOf]; omega⟩
        · have d0 : (g.s == s) = false := by simpa using c0
          have HOK2 := hmiss (by unfold fdG; simp [c0])
          clear hmiss
          go_wp2_with (first | (refine wpL_idxR tyG rfl (.tmp 14) (.tmp 16) rfl BK off n _ i rfl rfl hlt ?_) | (refine wpL_atR tyG rfl (.tmp 18) rfl BK (off + 36 * i) g.row rfl (Gr.len hgok.out) HRI.out ?_) | (refine wpL_newR tyG rfl rfl ?_; intro p9 wq1 n1; have HB1 := hidp (HB.out.trans (n1.below.mono HB.out.size)); have hbw := hidp (Nat.le_trans HB.out.size n1.le); have HZ1 := hidp (n1.old HZ.out); have hz9 := hidp (show b6 < p9 from by have := n1.at_; have := HZ.out.lt; omega)) | (refine wpL_putR tyG rfl (.tmp 9) (.tmp 19) rfl p9 g.row rfl rfl (Gr.len hgok.out) (Gr.one g) zG rfl n1.arr ?_; intro wq2 ha hp; have HA2 := hidp ha; have HB2 := hidp (hp.below' HB1.out hbw.out); have HZ2 := hidp (hp.old HZ1.out hz9.out); clear ha hp n1 HB1 HZ1; obtain ⟨x0, x1, x2, x3⟩ := gr_cells HA2.out))
          exact ⟨⟨i + 1, by go_num, by omega, HOK2, HZ2.out, HB2.out⟩, by simp [intOf]; omega⟩
      · have e1 : decide ((i : Int) < (n : Int)) = false := by simp; omega
        have hin : i = n := by omega
        have hnf : ¬ gs.findIdx (fdG s t) < gs.length := fun h => by
          have h1 := List.findIdx_getElem (w := h)
          rw [HOK.out _ (by rw [hin, ← HN.out]; exact h) h] at h1
          cases h1
        have HF := hidp (show (fiV gs s t).row = zG from by unfold fiV; rw [HOKB.out, if_pos rfl, if_neg hnf]; rfl)
        have HE := hidp (show fiE gs s t = 3 from by unfold fiE; rw [HOKB.out, if_pos rfl, if_neg hnf])
        clear hnf hin
        go_wp2_with (first | (refine wpL_zeroG rfl rfl ?_) | (refine wpL_putR tyG rfl (.tmp 6) (.tmp 38) rfl b6 zG rfl rfl rfl (fun u hu => gz.one u hu) zG rfl HZ.out ?_; intro w9 ha9 hp9))
        have HBZ := hidp (hp9.below' HB.out h6w.out)
        obtain ⟨fs, hu⟩ := tyG.ut
        refine bodyPost_ret (results_row_tmp (P := Tryd.prog) (p := 6) (u := 7) (ty := 27) Tryd.results6 _ _ b6 27 zG.toArray (0, 0) _ rfl ha9 hu rfl (tyG.size rfl) _ rfl) rfl ⟨by rw [HF.out, HE.out]; rfl, HBZ.out⟩

set_option maxHeartbeats 16000000 in
theorem rbverify_any (w : World) (v : Value) (gs : List Gr) (hv : GsAt w v gs) (s t : Int) (x g : ByteArray) (hx : x.size ≤ 281474976710656) (hg : g.size ≤ 281474976710656) (hx2 : x.size ≤ 281474976710656 / 4) :
    Calls Tryd.prog 8 #[v, .int .i64 s, .int .i64 t, .string x, .string g] w fun e w' => e = .returned (.int .i64 (bvE gs s t x g)) ∧ Below w.heap.size w w' := by
  have cf := rbfind_any w v gs hv s t
  have hok := hidp (fiV_ok hv.2 s t)
  have hbv : bvE gs s t x g = if fiE gs s t = 0 then vfE (fiV gs s t).r (fiV gs s t).h x g else fiE gs s t := rfl
  obtain ⟨E, hE⟩ : ∃ E, fiE gs s t = E := ⟨_, rfl⟩
  obtain ⟨G, hG⟩ : ∃ E, fiV gs s t = E := ⟨_, rfl⟩
  rw [hE, hG] at cf hbv
  rw [hG] at hok
  obtain ⟨R, hR⟩ : ∃ R, bvE gs s t x g = R := ⟨_, rfl⟩
  rw [hR] at hbv ⊢
  clear hE hG hR hv
  by_cases h0 : E = 0
  · rw [if_pos h0] at hbv
    have cv := hidp (fun W => rverify_any W G.r hok.out G.h x g hx2 hg)
    rw [← hbv] at cv
    subst h0
    go_enter Tryd.func8, Tryd.ntmps8
    go_wp2_with fail
    refine cf.mono ?_
    rintro e w1 ⟨rfl, hb1⟩
    have HB1 := hidp hb1; clear hb1 cf hbv
    go_wp2_with (first | (refine wpL_newR tyG rfl rfl ?_; intro b2 w2 n2; have HB2 := hidp (HB1.out.trans (n2.below.mono HB1.out.size)); have h2w := hidp (Nat.le_trans HB1.out.size n2.le)) | (refine wpL_putR tyG rfl (.tmp 11) (.tmp 18) rfl b2 G.row rfl rfl (Gr.len hok.out) (Gr.one G) zG rfl n2.arr ?_; intro w3 ha hp; have HA := hidp ha; have HB3 := hidp (hp.below' HB2.out h2w.out); clear ha hp n2; obtain ⟨x0, x1, x2, x3⟩ := gr_cells HA.out; have HH := hidp (gr_hash HA.out.range)) | (refine wpL_at rfl (.tmp 23) rfl b2 4 G.r rfl hok.out (by simpa using HH.out) ?_))
    clear x0 x1 x2 x3
    refine (cv.out _).mono ?_
    rintro e w4 ⟨rfl, hb4⟩
    have HB4 := hidp (HB3.out.trans (hb4.mono HB3.out.size)); clear hb4
    go_wp2_with fail
    go_ret
    exact ⟨rfl, HB4.out⟩
  · rw [if_neg h0] at hbv
    subst hbv
    have e0 : (R != 0) = true := by simpa using h0
    have e1 : (R == 0) = false := by simpa using h0
    go_enter Tryd.func8, Tryd.ntmps8
    go_wp2_with fail
    refine cf.mono ?_
    rintro e w1 ⟨rfl, hb1⟩
    have HB1 := hidp hb1; clear hb1 cf
    go_wp2_with (first | (refine wpL_newR tyG rfl rfl ?_; intro b2 w2 n2; have HB2 := hidp (HB1.out.trans (n2.below.mono HB1.out.size)); have h2w := hidp (Nat.le_trans HB1.out.size n2.le)) | (refine wpL_putR tyG rfl (.tmp 11) (.tmp 18) rfl b2 G.row rfl rfl (Gr.len hok.out) (Gr.one G) zG rfl n2.arr ?_; intro w3 ha hp; have HB3 := hidp (hp.below' HB2.out h2w.out); clear ha hp n2))
    go_ret
    exact ⟨rfl, HB3.out⟩


theorem eqin_hd (d : Nat) (W : World) (a b : List UInt8) (ha : a.length = 32) (hb : b.length = 32) :
    (Op.equalIn (d + 2) 25 (.agg (u8s a).toArray) (.agg (u8s b).toArray)).run Tryd.prog W = .ok (decide (a = b)) W := by
  obtain ⟨i0, hi, hz0, hz1, hz2⟩ := info_parts info5
  have hu : Tryd.prog.underlying 25 = some (.array 32 5) := by kernel_rfl
  have hu8 : Tryd.prog.underlying 5 = some (.int .u8) := Tryd.underlying5
  have hsz : ∀ W, (sizeOf 5).run Tryd.prog W = .ok 1 W := by intro W; simp [sizeOf, typeInfo, hi, hz1]
  have hpart : ∀ (l : List UInt8) (i : Nat) (W : World), l.length = 32 → i < 32 → (part 5 (u8s l).toArray (i * 1)).run Tryd.prog W = .ok (.int .u8 ((l.getD i 0).toNat : Int)) W := by
    intro l i W hl hlt
    simp [part, sizeOf, typeInfo, hi, hz0, hz1, hz2, hl, hlt, u8s, List.getD_eq_getElem?_getD]
  have hdec : decide (a = b) = (List.range' 0 32).all (fun i => a.getD i 0 == b.getD i 0) := by
    rw [Bool.eq_iff_iff, decide_eq_true_iff, List.all_eq_true]
    constructor
    · rintro rfl i _; simp
    · intro h
      apply List.ext_getElem (by omega)
      intro i h1 h2
      have := h i (by simp [List.mem_range']; omega)
      simpa [List.getD_eq_getElem?_getD, h1, h2] using this
  rw [hdec]
  unfold Op.equalIn
  simp only [Sem.run_bind, run_underlying hu, Result.andThen_ok, hsz]
  rw [Std.Legacy.Range.forIn_eq_forIn_range']
  have hall : ∀ i ∈ List.range' 0 32, i < 32 := by intro i h; simp [List.mem_range'] at h; omega
  show ((Sem.run Tryd.prog (forIn (List.range' 0 32) _ _) W).andThen _) = _
  generalize List.range' 0 32 = is at hall ⊢
  induction is generalizing W with
  | nil => simp
  | cons i is ih =>
    have hi32 := hall i (by simp)
    have ih := ih W (fun j hj => hall j (by simp [hj]))
    simp only [List.forIn_cons, Sem.run_bind, hpart a i _ ha hi32, hpart b i _ hb hi32, Result.andThen_ok, run_equalIn_int _ _ _ _ _ _ _ hu8, Sem.run_ite, List.all_cons]
    have hbeq : (((a.getD i 0).toNat : Int) == ((b.getD i 0).toNat : Int)) = (a.getD i 0 == b.getD i 0) := by
      rw [Bool.eq_iff_iff, beq_iff_eq, beq_iff_eq, ← UInt8.toNat_inj]; omega
    rw [hbeq]
    cases a.getD i 0 == b.getD i 0
    · simp
    · simpa using ih
theorem eqin_gr (W : World) (g : Gr) (hg : g.ok) : (Op.equalIn 10000 27 (.agg g.row.toArray) (.agg g.row.toArray)).run Tryd.prog W = .ok true W := by
  have ht : Tryd.prog.underlying 27 = some (.struct (Tryd.prog.fieldsOf 27)) := by kernel_rfl
  have hp : Tryd.prog.stoodInHeld 27 = false := by kernel_rfl
  have hu := Tryd.underlying27
  have hui := Tryd.underlying2
  have hui2 := Tryd.underlying3
  have hl := Gr.len hg
  have r0 : g.row[0]'(by omega) = .int .i64 g.s := rfl
  have r1 : g.row[1]'(by omega) = .int .i64 g.f := rfl
  have r2 : g.row[2]'(by omega) = .int .i64 g.t := rfl
  have r3 : g.row[3]'(by omega) = .int .i64 g.h := rfl
  have r4 : List.take 32 (List.drop 4 g.row) = u8s g.r := by
    unfold Gr.row
    rw [List.drop_left' (by rfl)]
    exact List.take_of_length_le (by rw [u8s_length, hg]; exact Nat.le_refl _)
  have qh := fun W => eqin_hd 9997 W g.r g.r hg hg
  simp only [decide_true] at qh
  rw [run_equalIn_agg W 9999 _ _ _ ht hp]
  unfold Program.fieldsOf
  rw [hu]
  go_simp
theorem guard_gr : Tryd.prog.eqGuardType Tryd.prog.depth 27 = false := by kernel_rfl
theorem s_neG {ops : Array Oper} {Q : Exit → Act → World → Prop} {S : World → Prop} {k : Nat} {o : Oper} {s : Scr} {a : Act} {w : World} (ho : ops[k]? = some o) (hw : Region.wanted o (yielded ops a.tmps) = true) (x y : Operand) (u : TypeId) (hop : o.op = .binOp .neq 27 x y u)
    (g : Gr) (hg : g.ok) (hx : a.eval x = .agg g.row.toArray) (hy : a.eval y = .agg g.row.toArray) (h : wpScr Tryd.prog ops Q s S (a.put o.dst (.bool false)) w) : wpScr Tryd.prog ops Q (.take k s) S a w :=
  s_val ho hw (fun w _ => by
    unfold execOp
    simp only [hop, hx, hy, Sem.run_bind, run_eqGuard_agg (P := Tryd.prog) _ _ _ _ _ _ _ guard_gr, run_neq_struct, eqin_gr w g hg, Bool.not_true, Result.andThen_ok, Sem.run_pure]) h
set_option maxHeartbeats 16000000 in
theorem same_any (w : World) (v u : Value) (gs : List Gr) (hv : GsAt w v gs) (hu : GsAt w u gs) (hn : gs.length ≤ 4611686018427387904) :
    Calls Tryd.prog 10 #[v, u] w fun e w' => e = .returned (.bool true) ∧ Below w.heap.size w w' := by
  have HV := hidp hv; have HU := hidp hu; clear hv hu
  obtain ⟨av, cv, rfl⟩ := HV.out.form
  obtain ⟨au, cu, rfl⟩ := HU.out.form
  obtain ⟨n, hnn⟩ : ∃ n, gs.length = n := ⟨_, rfl⟩
  have HN := hidp hnn
  rw [hnn] at HV HU hn ⊢
  clear hnn
  have e0 : ((n : Int) != (n : Int)) = false := by simp
  go_enter Tryd.func10, Tryd.ntmps10
  go_wp2_with fail
  go_loopw [13] (fun t13 wr => ∃ i : Nat, t13 = .int .i64 (i : Int) ∧ i ≤ n ∧ Below w.heap.size w wr) (fun t13 _ => n - (intOf t13).toNat)
  case atStart => exact ⟨0, rfl, by omega, Below.refl _ _⟩
  case round =>
    obtain ⟨i, rfl, hi, hb⟩ := hrel
    have HB := hidp hb
    clear hb
    by_cases hlt : i < n
    · have e1 : decide ((i : Int) < (n : Int)) = true := by simp; omega
      have hgl : i < gs.length := by rw [HN.out]; exact hlt
      obtain ⟨B1, o1, c1, e2, -, hB1, hR1⟩ := HV.out.get (by rw [HN.out]; omega)
      rw [HN.out] at e2
      simp only [Value.slice.injEq] at e2
      obtain ⟨rfl, -, rfl⟩ := e2
      obtain ⟨B2, o2, c2, e2, -, hB2, hR2⟩ := HU.out.get (by rw [HN.out]; omega)
      rw [HN.out] at e2
      simp only [Value.slice.injEq] at e2
      obtain ⟨rfl, -, rfl⟩ := e2
      obtain ⟨g, hge⟩ : ∃ g, gs[i] = g := ⟨_, rfl⟩
      have hgok := hidp (show g.ok from by rw [← hge]; exact HV.out.2 _ (List.getElem_mem hgl))
      go_wp2_with fail
      obtain ⟨U, hU⟩ : ∃ U, ({ wr with drawn := wr.drawn + 1 } : World) = U := ⟨_, rfl⟩
      have bU : Below wr.heap.size wr U := by rw [← hU]; exact (Below.refl _ _).drew
      have HBU := hidp (HB.out.trans (bU.mono HB.out.size))
      have HS := hidp (show U.rangeAt B1 (o1 + 36 * i) g.row ∧ U.rangeAt B2 (o2 + 36 * i) g.row from by rw [← hge]; exact ⟨rangeAt_below (hR1 i hgl) HBU.out hB1, rangeAt_below (hR2 i hgl) HBU.out hB2⟩)
      clear bU hR1 hR2 hge
      refine wp_region_noPanic ?_
      refine wp_region_scr (S := fun W => W.rangeAt B1 (o1 + 36 * i) g.row ∧ W.rangeAt B2 (o2 + 36 * i) g.row) (.take 0 (.take 1 (.take 2 (.take 3 (.take 4 (.take 5 (.take 6 (.take 7 (.take 8 .done))))))))) (by kernel_rfl) (by kernel_rfl) (fun _ _ _ _ _ h => h) (by simp [Scr.depth]) (by kernel_rfl) (by rw [hU]; exact HS.out) ?_
      simp only [hU]
      clear hU
      apply s_val
      case ho => rfl
      case hw => rfl
      case hv => intro w hw; go_simp; first | done | with_reducible rfl | rfl
      simp only [Act.put, List.getElem_toArray, List.getElem_cons_zero, List.getElem_cons_succ, List.setIfInBounds_toArray, List.set_cons_zero, List.set_cons_succ]
      apply s_val
      case ho => rfl
      case hw => rfl
      case hv => intro w hw; go_simp; first | done | with_reducible rfl | rfl
      simp only [Act.put, List.getElem_toArray, List.getElem_cons_zero, List.getElem_cons_succ, List.setIfInBounds_toArray, List.set_cons_zero, List.set_cons_succ]
      refine s_idxR tyG rfl rfl (.tmp 16) (.tmp 17) rfl B1 o1 n _ i rfl rfl hlt ?_
      simp only [Act.put, List.getElem_toArray, List.getElem_cons_zero, List.getElem_cons_succ, List.setIfInBounds_toArray, List.set_cons_zero, List.set_cons_succ]
      refine s_atG rfl rfl (.tmp 18) rfl B1 (o1 + 36 * i) g rfl hgok.out (fun w h => h.1) ?_
      simp only [Act.put, List.getElem_toArray, List.getElem_cons_zero, List.getElem_cons_succ, List.setIfInBounds_toArray, List.set_cons_zero, List.set_cons_succ]
      apply s_val
      case ho => rfl
      case hw => rfl
      case hv => intro w hw; go_simp; first | done | with_reducible rfl | rfl
      simp only [Act.put, List.getElem_toArray, List.getElem_cons_zero, List.getElem_cons_succ, List.setIfInBounds_toArray, List.set_cons_zero, List.set_cons_succ]
      apply s_val
      case ho => rfl
      case hw => rfl
      case hv => intro w hw; go_simp; first | done | with_reducible rfl | rfl
      simp only [Act.put, List.getElem_toArray, List.getElem_cons_zero, List.getElem_cons_succ, List.setIfInBounds_toArray, List.set_cons_zero, List.set_cons_succ]
      refine s_idxR tyG rfl rfl (.tmp 20) (.tmp 21) rfl B2 o2 n _ i rfl rfl hlt ?_
      simp only [Act.put, List.getElem_toArray, List.getElem_cons_zero, List.getElem_cons_succ, List.setIfInBounds_toArray, List.set_cons_zero, List.set_cons_succ]
      refine s_atG rfl rfl (.tmp 22) rfl B2 (o2 + 36 * i) g rfl hgok.out (fun w h => h.2) ?_
      simp only [Act.put, List.getElem_toArray, List.getElem_cons_zero, List.getElem_cons_succ, List.setIfInBounds_toArray, List.set_cons_zero, List.set_cons_succ]
      refine s_neG rfl rfl (.tmp 19) (.tmp 23) _ rfl g hgok.out rfl rfl ?_
      simp only [Act.put, List.getElem_toArray, List.getElem_cons_zero, List.getElem_cons_succ, List.setIfInBounds_toArray, List.set_cons_zero, List.set_cons_succ]
      refine NoPanic.normal ?_
      go_wp2_with fail
      exact ⟨⟨i + 1, by go_num, by omega, HBU.out⟩, by simp [intOf]; omega⟩
    · have e1 : decide ((i : Int) < (n : Int)) = false := by simp; omega
      go_wp2_with fail
      go_ret
      exact ⟨rfl, HB.out⟩
end Go.Proofs.YtbgooppmhgaicaaDoor
