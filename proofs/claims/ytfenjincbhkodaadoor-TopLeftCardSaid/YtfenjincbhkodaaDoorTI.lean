/-
  Joined: InsC.
-/
import Derived.Test.YtfenjincbhkodaaDoorTH
import Derived.Lib.Overlaps
import Derived.Laws.Externs
namespace Go.Proofs.YtfenjincbhkodaaDoor
set_option maxRecDepth 100000
set_option linter.unusedVariables false
set_option linter.unusedSimpArgs false
open Go.RowKit Rw

theorem arr_shape {w : World} {b T : Nat} {xs : List Value} (h : Arr w b T xs) : w.shape? b = some (T, xs.length) := by
  have e : w.heap[b]? = some (.cells xs.toArray T (0, 0)) := h
  unfold World.shape?
  rw [e]; simp
theorem ins_ints (n i : Nat) (hi : i ≤ n) (hn : n ≤ 1048576) : IntKind.i64.wrap ((n : Int) + 1) = ((n + 1 : Nat) : Int) ∧ IntKind.i64.wrap ((i : Int) + 1) = ((i + 1 : Nat) : Int) ∧ IntKind.i64.wrap ((n : Int) + 1 - (i : Int)) = ((n + 1 - i : Nat) : Int) ∧ IntKind.i64.wrap (((n + 1 : Nat) : Int) - (i : Int)) = ((n + 1 - i : Nat) : Int) := by
  refine ⟨?_, ?_, ?_, ?_⟩ <;> (rw [IntKind.wrap_i64]; omega)
set_option maxHeartbeats 16000000 in
theorem insert_own (w : World) (B : Nat) (v : Value) (es : List (List Value)) (vb : Nat) (x : List Value) (i : Nat) (hv : OwnR 68 8 w B v es) (h1 : One1 es) (hx : Arr w vb 68 x) (hxl : x.length = 8) (hx1 : ∀ u ∈ x, u.oneCell' = true)
    (hne : v.ownBlock ≠ some vb) (hi : i ≤ es.length) (hn : es.length ≤ 1024) (hB : B ≤ w.heap.size) :
    Calls Tryd.prog 60 #[v, .int .i64 (i : Int), .slice (some ⟨vb, 0, none⟩) 1 1] w fun e w' => ∃ v', e = .returned v' ∧ OwnR 68 8 w' B v' (es.take i ++ [x] ++ es.drop i) ∧ Below B w w' := by
  have R := hidp tyC
  have HV := hidp hv; have HX := hidp hx
  have hox : One1 [x] := fun e he => by simp at he; subst he; exact hx1
  have hkx : AllK 8 [x] := AllK.one hxl
  obtain ⟨n, hnn⟩ : ∃ n, es.length = n := ⟨_, rfl⟩
  have HN := hidp hnn
  have hv' := hv
  by_cases hin : i = n
  · have HF := hidp (show (es.take i ++ [x] ++ es.drop i) = es ++ [x] from by rw [hin, ← hnn, List.take_length, List.drop_length, List.append_nil])
    rcases hv.2.2 with ⟨rfl, h0⟩ | ⟨g, cap, cur, rfl, hBg, hg, hnc, hcm, hcs, hct⟩
    · have hes : es = [] := List.eq_nil_of_length_eq_zero h0
      have hi0 : i = 0 := by omega
      subst hi0
      have hn0 : n = 0 := by omega
      clear hv hv' hin hi hn hnn
      subst hn0
      go_enter Tryd.func60, Tryd.ntmps60
      go_wp2_with (refine wpL_appR R.out rfl (.tmp 23) (.tmp 24) rfl B vb 0 1 (.slice none 0 0) es [x] 1 rfl rfl rfl HV.out (by simpa using HX.out.range) hkx hox hB (by rw [HN.out]; omega) ?_; intro v' W ho _ hb)
      go_ret
      exact ⟨_, rfl, by rw [HF.out]; exact ho, hb⟩
    · rw [hnn] at hnc hct HV ⊢
      have eq1 : ((i : Int) == (n : Int)) = true := by simp; omega
      have hc63 : cap ≤ 9223372036854775807 := by unfold maxLen at hcm; omega
      obtain ⟨V1, hV1⟩ : ∃ V, Value.slice (some ⟨g, if cap = i then 0 else 0 + 8 * i, none⟩) (n - i) (cap - i) = V := ⟨_, rfl⟩
      clear hv hv' hnn hg hcs hct
      go_enter Tryd.func60, Tryd.ntmps60
      go_wp2_with (first | (refine wpL_fromV R.out rfl (.tmp 10) (.tmp 11) rfl g 0 n cap i rfl rfl (by omega) V1 hV1 ?_) | (refine wpL_appR R.out rfl (.tmp 23) (.tmp 24) rfl B vb 0 1 (.slice (some ⟨g, 0, none⟩) n cap) es [x] 1 rfl rfl rfl HV.out (by simpa using HX.out.range) hkx hox hB (by rw [HN.out]; omega) ?_; intro v' W ho _ hb))
      go_ret
      exact ⟨_, rfl, by rw [HF.out]; exact ho, hb⟩
  · have hlt : i < n := by omega
    obtain ⟨g, cap, cur, rfl, hBg, hg, hnc, hcm, hcs, hct⟩ := hv.blk (by omega)
    rw [hnn] at hnc hct HV ⊢
    have HG := hidp hg
    have hgv : g ≠ vb := fun h => hne (by rw [h]; rfl)
    have hgl := hg.lt; have hvl := hx.lt
    have eq1 : ((i : Int) == (n : Int)) = false := by simp; omega
    have hc63 : cap ≤ 9223372036854775807 := by unfold maxLen at hcm; omega
    have hn2 : n ≤ 1024 := by omega
    obtain ⟨q1, q2, q3, q4⟩ := ins_ints n i (by omega) (by omega)
    have hAl : (es.take i).flatten.length = 8 * i := by rw [Rw.flat_len (hv.1.take i), List.length_take, hnn, Nat.min_eq_left (by omega)]
    have hDl : (es.drop i).flatten.length = 8 * (n - i) := by rw [Rw.flat_len (hv.1.drop i), List.length_drop, hnn]
    have hdl : (es.drop i).length = n - i := by rw [List.length_drop, hnn]
    have hfl : (es.take i ++ [x] ++ es.drop i).flatten = (es.take i).flatten ++ x ++ (es.drop i).flatten := by simp
    have hANl : (es.take i ++ [x] ++ es.drop i).length = n + 1 := by simp [hnn]; omega
    have hANk : AllK 8 (es.take i ++ [x] ++ es.drop i) := ((hv.1.take i).app hkx).app (hv.1.drop i)
    have hrange := (show w.rangeAt g 0 es.flatten from by
      have := hg.range
      rw [← hct]
      intro j u hj
      exact this j u (by rw [List.getElem?_take] at hj; split at hj; exact hj; cases hj))
    have HRD := hidp (rAt_drop hrange hv.1 i (by omega))
    have HKD := hidp (hv.1.drop i); have HOD := hidp (h1.drop i)
    by_cases hroom : cap < n + 1
    · have eg : decide (((n + 1 : Nat) : Int) > (cap : Int)) = true := by simp; omega
      have eg2 : (cap : Int) < ((n + 1 : Nat) : Int) := by omega
      obtain ⟨i0, hi0, hz0, hz1, hz2⟩ := info_parts R.out.info
      have hold : (Builtin.firstCells i0.size i (.slice (some ⟨g, 0, none⟩) i cap)).run Tryd.prog w.drew = .ok (es.take i).flatten.toArray w.drew := by
        rw [hz1]
        exact run_firstCells_some (P := Tryd.prog) w.drew 8 i ⟨g, 0, none⟩ i cap (es.take i).flatten (by rw [hAl]; simp [Nat.mul_comm]) (fun j u hj => by
          rw [addr_addR]
          exact rAt_take hrange i j u hj)
      have hap : (Builtin.append_ #[56, 3] 56 #[.slice (some ⟨g, 0, none⟩) i cap, .int .i64 ((n + 1 - i : Nat) : Int)]).run Tryd.prog w =
          .ok (.slice (some ⟨w.heap.size, 0, none⟩) (n + 1) (grownCap w (n + 1) cap 68)) (w.drew.alloc (.cells ((es.take i).flatten.toArray ++ Builtin.zeroCells (Value.agg zC.toArray).cells (n + 1 - i) ++ Builtin.zeroCells (Value.agg zC.toArray).cells (grownCap w (n + 1) cap 68 - (n + 1))) 68)) := by
        have h := Lib.run_append_grow_zeros w 56 3 56 68 i0 _ .i64 .i64 R.out.us Tryd.underlying3 hi0 hz0 (some ⟨g, 0, none⟩) i cap (es.take i).flatten hold (n + 1 - i) (by omega) (by rw [hz1]; omega) (by omega) (by omega) (by rw [hz2]; omega) (by rw [hz2, show i + (n + 1 - i) = n + 1 from by omega]; exact growslice_fits hroom (by omega))
        rw [show i + (n + 1 - i) = n + 1 from by omega] at h
        exact h
      have hGn : n + 1 ≤ grownCap w (n + 1) cap 68 := grownCap_ge w _ _ _
      have hGm := grownCap_le_maxLen w (n + 1) cap 68 (by unfold maxLen; omega)
      obtain ⟨G, hG⟩ : ∃ G, grownCap w (n + 1) cap 68 = G := ⟨_, rfl⟩
      rw [hG] at hap hGn hGm
      obtain ⟨ROW, hROW⟩ : ∃ r : List Value, ((es.take i).flatten.toArray ++ Builtin.zeroCells (Value.agg zC.toArray).cells (n + 1 - i) ++ Builtin.zeroCells (Value.agg zC.toArray).cells (G - (n + 1))) = r.toArray := ⟨_, (Array.toArray_toList ..).symm⟩
      have hRl : ROW.length = G * 8 := by
        have h1 : ((es.take i).flatten.toArray ++ Builtin.zeroCells (Value.agg zC.toArray).cells (n + 1 - i) ++ Builtin.zeroCells (Value.agg zC.toArray).cells (G - (n + 1))).size = ROW.length := by rw [hROW]; exact List.size_toArray ..
        have h2 : ∀ m, (Builtin.zeroCells (Value.agg zC.toArray).cells m).size = m * 8 := fun m => by
          have : zC.length = 8 := rfl
          simp [Builtin.zeroCells, Value.cells, this]
        rw [Array.size_append, Array.size_append, List.size_toArray, hAl, h2, h2] at h1
        omega
      have hRA : ROW.take (8 * i) = (es.take i).flatten := by
        have e2 : ROW = (es.take i).flatten ++ (Builtin.zeroCells (Value.agg zC.toArray).cells (n + 1 - i)).toList ++ (Builtin.zeroCells (Value.agg zC.toArray).cells (G - (n + 1))).toList := by
          have := congrArg Array.toList hROW
          simpa using this.symm
        rw [e2, List.append_assoc, ← hAl, List.take_left]
      rw [hROW] at hap
      obtain ⟨W1, hW1⟩ : ∃ W, w.drew.alloc (.cells ROW.toArray 68) = W := ⟨_, rfl⟩
      rw [hW1] at hap
      have HAP := hidp hap
      obtain ⟨b9, hb9⟩ : ∃ b, w.heap.size = b := ⟨_, rfl⟩
      have HA1 := hidp (show Arr W1 b9 68 ROW from by rw [← hW1, ← hb9]; exact Arr.new w.drew 68 ROW)
      have HB1 := hidp (show Below w.heap.size w W1 from by rw [← hW1]; exact ((Below.refl _ w).drew).alloc (Nat.le_refl _) _)
      have hB9 := hidp (show B ≤ b9 from by omega)
      have HX1 := hidp (HX.out.below HB1.out hvl)
      have HRD1 := hidp (show W1.rangeAt g (0 + 8 * i) (es.drop i).flatten from rangeAt_below HRD.out HB1.out hgl)
      have hvb9 : vb < b9 := by omega
      have hgb9 : g < b9 := by omega
      have hc1 := run_copyR R.out W1 3 b9 (8 * i) (n + 1 - i) (G - i) vb 0 1 1 [x] ROW 68 (by rw [Nat.min_eq_left (by omega)]; rfl) hkx hox (by simpa using HX1.out.range) HA1.out (by
        have : 8 * (n + 1) ≤ 8 * G := Nat.mul_le_mul_left 8 hGn
        simp; omega)
      simp only [List.flatten_cons, List.flatten_nil, List.append_nil] at hc1
      obtain ⟨W2, hW2⟩ : ∃ W, W1.setCells b9 (8 * i) x = W := ⟨_, rfl⟩
      rw [hW2] at hc1
      have HC1 := hidp hc1
      have HA2 := hidp (show Arr W2 b9 68 (ROW.take (8 * i) ++ x ++ ROW.drop (8 * i + 8)) from by
        have := Rw.setCells_arr x (8 * i) W1 ROW HA1.out (by
          have : 8 * (n + 1) ≤ 8 * G := Nat.mul_le_mul_left 8 hGn
          omega)
        rw [hW2, hxl] at this; exact this)
      have HS2 := hidp (show Rt.Stp b9 W1 W2 from by rw [← hW2]; exact Rw.setCells_stp b9 x (8 * i) W1)
      have HRD2 := hidp (show W2.rangeAt g (0 + 8 * i) (es.drop i).flatten from rangeAt_below HRD1.out (HS2.out.below b9 (Nat.le_refl _)) hgb9)
      rw [hb9] at HAP
      have hgi1 : ¬ G = i := by omega
      have hgi2 : ¬ G = i + 1 := by omega
      have hci : ¬ cap = i := by omega
      have hfin := ins_grow (n := n) hAl hRA hxl hDl (by omega) (by
        have : 8 * (n + 1) ≤ 8 * G := Nat.mul_le_mul_left 8 hGn
        omega)
      have HFIN := hidp hfin
      have HRL := hidp hRl
      have HGM := hidp hGm
      clear hap hc1 hfin hW1 hW2 hROW hRA hRl hold hrange hcs hct hi0 hz0 hz1 hz2 hGm hv hv' hG hg
      obtain ⟨V1, hV1⟩ : ∃ V, Value.slice (some ⟨g, if cap = i then 0 else 0 + 8 * i, none⟩) (n - i) (cap - i) = V := ⟨_, rfl⟩
      go_enter Tryd.func60, Tryd.ntmps60
      go_wp2_with (first
        | (refine wpL_fromV R.out rfl (.tmp 10) (.tmp 11) rfl g 0 n cap i rfl rfl (by omega) V1 hV1 ?_)
        | (refine wpL_toR R.out rfl (.tmp 32) (.tmp 33) rfl g 0 n cap i rfl rfl (by omega) ?_)
        | (refine wpL_appRun rfl (.tmp 34) (.tmp 39) 56 3 rfl _ _ rfl rfl HAP.out ?_)
        | (refine wpL_fromV R.out rfl (.tmp 41) (.tmp 42) rfl b9 0 (n + 1) G i rfl rfl (by omega) (.slice (some ⟨b9, 8 * i, none⟩) (n + 1 - i) (G - i)) (by rw [if_neg hgi1, Nat.zero_add]) ?_)
        | (refine wpL_copyRun rfl (.tmp 43) (.tmp 44) 56 56 rfl _ _ rfl rfl HC1.out ?_))
      obtain ⟨U, hU⟩ : ∃ U, ({ W2 with drawn := W2.drawn + 1 } : World) = U := ⟨_, rfl⟩
      have bU : Below W2.heap.size W2 U := by rw [← hU]; exact (Below.refl _ _).drew
      have HA3 := hidp (HA2.out.below bU HA2.out.lt)
      have HRD3 := hidp (show U.rangeAt g (0 + 8 * i) (es.drop i).flatten from rangeAt_below HRD2.out bU (by have := HA2.out.lt; omega))
      have HB3 := hidp ((HS2.out.below' (HB1.out.mono (show B ≤ w.heap.size from hB)) hB9.out).trans (bU.mono (by have := HA2.out.lt; have := hB9.out; omega)))
      have hl3 : (ROW.take (8 * i) ++ x ++ ROW.drop (8 * i + 8)).length = G * 8 := by
        have h9 := HRL.out
        have : 8 * (n + 1) ≤ 8 * G := Nat.mul_le_mul_left 8 hGn
        simp only [List.length_append, List.length_take, List.length_drop, hxl]; omega
      have hc2 := run_copyR R.out U 3 b9 (8 * (i + 1)) (n + 1 - (i + 1)) (G - (i + 1)) g (0 + 8 * i) (n - i) (cap - i) (es.drop i) _ 68 (by rw [hdl, show n + 1 - (i + 1) = n - i from by omega, Nat.min_self]) HKD.out HOD.out HRD3.out HA3.out (by
        rw [hl3, hdl]
        have : 8 * (n + 1) ≤ 8 * G := Nat.mul_le_mul_left 8 hGn
        have e9 : 8 * (n - i) = 8 * n - 8 * i := Nat.mul_sub 8 n i
        omega)
      have hA9 := Rw.setCells_arr (es.drop i).flatten (8 * (i + 1)) U _ HA3.out (by
        rw [hl3, hDl]
        have : 8 * (n + 1) ≤ 8 * G := Nat.mul_le_mul_left 8 hGn
        have e9 : 8 * (n - i) = 8 * n - 8 * i := Nat.mul_sub 8 n i
        omega)
      have hS9 := Rw.setCells_stp b9 (es.drop i).flatten (8 * (i + 1)) U
      obtain ⟨W9, hW9⟩ : ∃ W, U.setCells b9 (8 * (i + 1)) (es.drop i).flatten = W := ⟨_, rfl⟩
      rw [hW9] at hc2 hA9 hS9
      have hl9 := congrArg List.length (show _ = _ from HFIN.out)
      have hown : OwnR 68 8 W9 B (.slice (some ⟨b9, 0, none⟩) (n + 1) G) (es.take i ++ [x] ++ es.drop i) := by
        have := OwnR.of_arr (B := B) (cap := G) hANk hA9 hB9.out (by rw [hANl]; exact hGn) HGM.out (by
          have h8 := hl3
          simp only [List.length_append, List.length_take, List.length_drop] at h8 ⊢
          have : 8 * (n + 1) ≤ 8 * G := Nat.mul_le_mul_left 8 hGn
          have e9 : 8 * (n - i) = 8 * n - 8 * i := Nat.mul_sub 8 n i
          rw [hDl]; omega) (by rw [hANl, hfl]; exact HFIN.out)
        rw [hANl] at this; exact this
      have HOWN := hidp hown; have HC2 := hidp hc2; have HB9 := hidp (hS9.below' HB3.out hB9.out)
      clear hc2 hA9 hS9 hown hW9 hl9 hl3 HFIN
      refine wp_region_noPanic ?_
      refine wp_region_scr (S := fun _ => True) (.take 0 (.take 1 (.take 2 (.take 3 (.take 4 (.take 5 (.take 6 (.take 7 (.one 8 .done))))))))) (by kernel_rfl) (by kernel_rfl) (fun _ _ _ _ _ h => h) (by simp [Scr.depth]) (by kernel_rfl) trivial ?_
      simp only [hU]
      clear hU
      apply s_val
      case ho => rfl
      case hw => rfl
      case hv => intro w hw; go_simp; first | done | with_reducible rfl | rfl
      simp only [Act.put, List.getElem_toArray, List.getElem_cons_zero, List.getElem_cons_succ, List.setIfInBounds_toArray, List.set_cons_zero, List.set_cons_succ]
      apply s_val
      case ho => rfl
      case hw => rfl
      case hv => intro w hw; go_simp; first | done | with_reducible rfl | rfl
      simp only [Act.put, List.getElem_toArray, List.getElem_cons_zero, List.getElem_cons_succ, List.setIfInBounds_toArray, List.set_cons_zero, List.set_cons_succ]
      apply s_val
      case ho => rfl
      case hw => rfl
      case hv => intro w hw; go_simp; first | done | with_reducible rfl | rfl
      simp only [Act.put, List.getElem_toArray, List.getElem_cons_zero, List.getElem_cons_succ, List.setIfInBounds_toArray, List.set_cons_zero, List.set_cons_succ]
      apply s_val (v := .int .i64 ((i + 1 : Nat) : Int))
      case ho => rfl
      case hw => rfl
      case hv => intro w hw; have e := q2; go_simp; first | done | with_reducible rfl | rfl
      simp only [Act.put, List.getElem_toArray, List.getElem_cons_zero, List.getElem_cons_succ, List.setIfInBounds_toArray, List.set_cons_zero, List.set_cons_succ]
      refine s_fromR R.out rfl rfl (.tmp 46) (.tmp 49) rfl b9 0 (n + 1) G (i + 1) rfl rfl (by omega) (.slice (some ⟨b9, 8 * (i + 1), none⟩) (n + 1 - (i + 1)) (G - (i + 1))) (by rw [if_neg hgi2, Nat.zero_add]) ?_
      simp only [Act.put, List.getElem_toArray, List.getElem_cons_zero, List.getElem_cons_succ, List.setIfInBounds_toArray, List.set_cons_zero, List.set_cons_succ]
      apply s_val
      case ho => rfl
      case hw => rfl
      case hv => intro w hw; go_simp; first | done | with_reducible rfl | rfl
      simp only [Act.put, List.getElem_toArray, List.getElem_cons_zero, List.getElem_cons_succ, List.setIfInBounds_toArray, List.set_cons_zero, List.set_cons_succ]
      apply s_val
      case ho => rfl
      case hw => rfl
      case hv => intro w hw; go_simp; first | done | with_reducible rfl | rfl
      simp only [Act.put, List.getElem_toArray, List.getElem_cons_zero, List.getElem_cons_succ, List.setIfInBounds_toArray, List.set_cons_zero, List.set_cons_succ]
      refine s_fromR R.out rfl rfl (.tmp 51) (.tmp 52) rfl g 0 n cap i rfl rfl (by omega) (.slice (some ⟨g, 0 + 8 * i, none⟩) (n - i) (cap - i)) (by rw [if_neg hci]) ?_
      simp only [Act.put, List.getElem_toArray, List.getElem_cons_zero, List.getElem_cons_succ, List.setIfInBounds_toArray, List.set_cons_zero, List.set_cons_succ]
      refine o_copyV rfl rfl (.tmp 50) (.tmp 53) 56 56 rfl _ _ _ W9 rfl rfl HC2.out trivial ?_
      simp only [Act.put, List.getElem_toArray, List.getElem_cons_zero, List.getElem_cons_succ, List.setIfInBounds_toArray, List.set_cons_zero, List.set_cons_succ]
      refine NoPanic.normal ?_
      go_wp2_with fail
      go_ret
      exact ⟨_, rfl, HOWN.out, HB9.out⟩
    · have eg : decide (((n + 1 : Nat) : Int) > (cap : Int)) = false := by simp; omega
      have eg2 : ¬ (cap : Int) < ((n + 1 : Nat) : Int) := by omega
      have hov : ∀ lb cb, (callFunc 87 #[.slice (some ⟨vb, 0, none⟩) 1 1, .slice (some ⟨g, 8 * (i + 1), none⟩) lb cb]).run Tryd.prog w = .ok (.value (.bool false)) w := fun lb cb => by
        rw [run_callFunc_extern Tryd.func87 (by kernel_rfl) (by kernel_rfl) (by kernel_rfl) (e := Extern.SlicesOverlaps.overlaps #[56, 56] #[4]) (by kernel_rfl),
          Lib.run_overlaps_apart w 56 4 68 R.out.us 8 R.out.sz ⟨vb, 0, none⟩ ⟨g, 8 * (i + 1), none⟩ 1 1 lb cb (Ne.symm hgv) 68 68 x.length cur.length (arr_shape HX.out) (arr_shape HG.out) (by rw [hcs]; have : 0 < cap * 8 := Nat.mul_pos (by omega) (by decide); omega) (HX.out.frozen 0) (HX.out.frozen x.length)]
        rfl
      have HOV := hidp hov
      have hcn : 8 * (n + 1) ≤ cap * 8 := by rw [Nat.mul_comm cap]; exact Nat.mul_le_mul_left 8 (by omega)
      have e9 : 8 * (n - i) = 8 * n - 8 * i := Nat.mul_sub 8 n i
      have e8 : 8 * (i + 1) = 8 * i + 8 := by rw [Nat.mul_add]
      have e7 : 8 * (n + 1) = 8 * n + 8 := by rw [Nat.mul_add]
      have e6 : 8 * i ≤ 8 * n := Nat.mul_le_mul_left 8 (by omega)
      have hci0 : ¬ cap = i := by omega
      have hci : ¬ cap = i + 1 := by omega
      have hAD : cur.take (8 * n) = (es.take i).flatten ++ (es.drop i).flatten := by rw [hct, ← List.flatten_append, List.take_append_drop]
      have HFIN := hidp (ins_shift (n := n) hAl hAD hxl hDl (by omega) (by omega))
      have HCS := hidp hcs; have HCM := hidp hcm; have HBG := hidp hBg
      clear hov hrange hct hAD hv hv' hg hcs hcm hBg
      obtain ⟨V1, hV1⟩ : ∃ V, Value.slice (some ⟨g, if cap = i then 0 else 0 + 8 * i, none⟩) (n - i) (cap - i) = V := ⟨_, rfl⟩
      go_enter Tryd.func60, Tryd.ntmps60
      have hovl := HOV.out
      simp only [Nat.mul_add, Nat.mul_one] at hovl
      go_wp2_with (first
        | (refine wpL_fromV R.out rfl (.tmp 10) (.tmp 11) rfl g 0 n cap i rfl rfl (by omega) V1 hV1 ?_)
        | (refine wpL_toR R.out rfl (.tmp 56) (.tmp 59) rfl g 0 n cap (n + 1) rfl rfl (by omega) ?_)
        | (refine wpL_fromV R.out rfl (.tmp 62) (.tmp 65) rfl g 0 (n + 1) cap (i + 1) rfl rfl (by omega) (.slice (some ⟨g, 8 * (i + 1), none⟩) (n + 1 - (i + 1)) (cap - (i + 1))) (by rw [if_neg hci, Nat.zero_add]) ?_)
        | simp only [hovl])
      clear hovl
      obtain ⟨U, hU⟩ : ∃ U, ({ w with drawn := w.drawn + 1 } : World) = U := ⟨_, rfl⟩
      have bU : Below w.heap.size w U := by rw [← hU]; exact (Below.refl _ _).drew
      have HG3 := hidp (HG.out.below bU hgl); have HX3 := hidp (HX.out.below bU hvl)
      have HRD3 := hidp (show U.rangeAt g (0 + 8 * i) (es.drop i).flatten from rangeAt_below HRD.out bU hgl)
      have HB3 := hidp (bU.mono hB)
      have hc2 := run_copyR R.out U 3 g (8 * (i + 1)) (n + 1 - (i + 1)) (cap - (i + 1)) g (0 + 8 * i) (n + 1 - i) (cap - i) (es.drop i) cur 68 (by rw [hdl, show n + 1 - (i + 1) = n - i from by omega, Nat.min_eq_right (by omega)]) HKD.out HOD.out HRD3.out HG3.out (by rw [HCS.out, hdl]; omega)
      have hA9 := Rw.setCells_arr (es.drop i).flatten (8 * (i + 1)) U cur HG3.out (by rw [HCS.out, hDl]; omega)
      have hS9 := Rw.setCells_stp g (es.drop i).flatten (8 * (i + 1)) U
      obtain ⟨W9, hW9⟩ : ∃ W, U.setCells g (8 * (i + 1)) (es.drop i).flatten = W := ⟨_, rfl⟩
      rw [hW9] at hc2 hA9 hS9
      have HC2 := hidp hc2; have HA9 := hidp hA9; have HX9 := hidp (hS9.arr (Ne.symm hgv) HX3.out); have HB9 := hidp (hS9.below' HB3.out HBG.out)
      have hl9 : (cur.take (8 * (i + 1)) ++ (es.drop i).flatten ++ cur.drop (8 * (i + 1) + (es.drop i).flatten.length)).length = cap * 8 := by
        have := HCS.out
        simp only [List.length_append, List.length_take, List.length_drop, hDl]; omega
      clear hc2 hA9 hS9 hW9 bU HG3 HX3 HRD3 HB3
      have hc3 := run_copyR R.out W9 3 g (8 * i) (n + 1 - i) (cap - i) vb 0 1 1 [x] _ 68 (by rw [Nat.min_eq_left (by omega)]; rfl) hkx hox (by simpa using HX9.out.range) HA9.out (by rw [hl9]; simp; omega)
      simp only [List.flatten_cons, List.flatten_nil, List.append_nil] at hc3
      have hA10 := Rw.setCells_arr x (8 * i) W9 _ HA9.out (by rw [hl9]; omega)
      have hS10 := Rw.setCells_stp g x (8 * i) W9
      obtain ⟨W10, hW10⟩ : ∃ W, W9.setCells g (8 * i) x = W := ⟨_, rfl⟩
      rw [hW10] at hc3 hA10 hS10
      have hown : OwnR 68 8 W10 B (.slice (some ⟨g, 0, none⟩) (n + 1) cap) (es.take i ++ [x] ++ es.drop i) := by
        have := OwnR.of_arr (B := B) (cap := cap) hANk hA10 HBG.out (by rw [hANl]; omega) HCM.out (by
          have h8 := hl9
          simp only [List.length_append, List.length_take, List.length_drop] at h8 ⊢
          omega) (by rw [hANl, hfl]; exact HFIN.out)
        rw [hANl] at this; exact this
      have HOWN := hidp hown; have HC3 := hidp hc3; have HB10 := hidp (hS10.below' HB9.out HBG.out)
      clear hc3 hA10 hS10 hW10 hown hl9 HFIN
      refine wp_region_noPanic ?_
      refine wp_region_scr (S := fun _ => True) (.take 0 (.take 1 (.take 2 (.take 3 (.take 4 (.take 5 (.take 6 (.take 7 (.one 8 .done))))))))) (by kernel_rfl) (by kernel_rfl) (fun _ _ _ _ _ h => h) (by simp [Scr.depth]) (by kernel_rfl) trivial ?_
      simp only [hU]
      clear hU
      apply s_val
      case ho => rfl
      case hw => rfl
      case hv => intro w hw; go_simp; first | done | with_reducible rfl | rfl
      simp only [Act.put, List.getElem_toArray, List.getElem_cons_zero, List.getElem_cons_succ, List.setIfInBounds_toArray, List.set_cons_zero, List.set_cons_succ]
      apply s_val
      case ho => rfl
      case hw => rfl
      case hv => intro w hw; go_simp; first | done | with_reducible rfl | rfl
      simp only [Act.put, List.getElem_toArray, List.getElem_cons_zero, List.getElem_cons_succ, List.setIfInBounds_toArray, List.set_cons_zero, List.set_cons_succ]
      apply s_val
      case ho => rfl
      case hw => rfl
      case hv => intro w hw; go_simp; first | done | with_reducible rfl | rfl
      simp only [Act.put, List.getElem_toArray, List.getElem_cons_zero, List.getElem_cons_succ, List.setIfInBounds_toArray, List.set_cons_zero, List.set_cons_succ]
      apply s_val (v := .int .i64 ((i + 1 : Nat) : Int))
      case ho => rfl
      case hw => rfl
      case hv => intro w hw; have e := q2; go_simp; first | done | with_reducible rfl | rfl
      simp only [Act.put, List.getElem_toArray, List.getElem_cons_zero, List.getElem_cons_succ, List.setIfInBounds_toArray, List.set_cons_zero, List.set_cons_succ]
      refine s_fromR R.out rfl rfl (.tmp 69) (.tmp 72) rfl g 0 (n + 1) cap (i + 1) rfl rfl (by omega) (.slice (some ⟨g, 8 * (i + 1), none⟩) (n + 1 - (i + 1)) (cap - (i + 1))) (by rw [if_neg hci, Nat.zero_add]) ?_
      simp only [Act.put, List.getElem_toArray, List.getElem_cons_zero, List.getElem_cons_succ, List.setIfInBounds_toArray, List.set_cons_zero, List.set_cons_succ]
      apply s_val
      case ho => rfl
      case hw => rfl
      case hv => intro w hw; go_simp; first | done | with_reducible rfl | rfl
      simp only [Act.put, List.getElem_toArray, List.getElem_cons_zero, List.getElem_cons_succ, List.setIfInBounds_toArray, List.set_cons_zero, List.set_cons_succ]
      apply s_val
      case ho => rfl
      case hw => rfl
      case hv => intro w hw; go_simp; first | done | with_reducible rfl | rfl
      simp only [Act.put, List.getElem_toArray, List.getElem_cons_zero, List.getElem_cons_succ, List.setIfInBounds_toArray, List.set_cons_zero, List.set_cons_succ]
      refine s_fromR R.out rfl rfl (.tmp 74) (.tmp 75) rfl g 0 (n + 1) cap i rfl rfl (by omega) (.slice (some ⟨g, 0 + 8 * i, none⟩) (n + 1 - i) (cap - i)) (by rw [if_neg hci0]) ?_
      simp only [Act.put, List.getElem_toArray, List.getElem_cons_zero, List.getElem_cons_succ, List.setIfInBounds_toArray, List.set_cons_zero, List.set_cons_succ]
      refine o_copyV rfl rfl (.tmp 73) (.tmp 76) 56 56 rfl _ _ _ W9 rfl rfl HC2.out trivial ?_
      simp only [Act.put, List.getElem_toArray, List.getElem_cons_zero, List.getElem_cons_succ, List.setIfInBounds_toArray, List.set_cons_zero, List.set_cons_succ]
      refine NoPanic.normal ?_
      go_wp2_with (first
        | (refine wpL_fromV R.out rfl (.tmp 78) (.tmp 79) rfl g 0 (n + 1) cap i rfl rfl (by omega) (.slice (some ⟨g, 8 * i, none⟩) (n + 1 - i) (cap - i)) (by rw [if_neg hci0, Nat.zero_add]) ?_)
        | (refine wpL_copyRun rfl (.tmp 80) (.tmp 81) 56 56 rfl _ _ rfl rfl HC3.out ?_))
      go_ret
      exact ⟨_, rfl, HOWN.out, HB10.out⟩
end Go.Proofs.YtfenjincbhkodaaDoor
