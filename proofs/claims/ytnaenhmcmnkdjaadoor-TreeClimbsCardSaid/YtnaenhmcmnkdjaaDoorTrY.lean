/-
  Tree: the walks of TreeClimbs and TreeThere.
-/
import Derived.Test.YtnaenhmcmnkdjaaDoorTrX
namespace Go.Proofs.YtnaenhmcmnkdjaaDoor
set_option maxRecDepth 100000
set_option linter.unusedVariables false
set_option linter.unusedSimpArgs false
open Go.RowKit

section
variable {ops : Array Oper} {C : World → Prop} {Q : Act → Prop} {a : Act} {o : Oper} {rest : List Oper}
theorem q_get (hw : Region.wanted o (yielded ops a.tmps) = true) (x : Operand) (ho : o.op = .load 24 x) (b : Nat) (l : List UInt8) (hx : a.eval x = .pointer (some ⟨b, 0, none⟩)) (hl : l.length = 32) (hc : ∀ w, C w → w.rangeAt b 0 (u8s l))
    (h : wpQuiet Tryd.prog ops C Q rest (a.put o.dst (.agg (u8s l).toArray))) : wpQuiet Tryd.prog ops C Q (o :: rest) a := q_mid hw x ho b 0 l hx hl hc h
end
set_option maxHeartbeats 8000000 in
theorem walk_treeClimbs (w : World) (leaf : List UInt8) (hlf : leaf.length = 32) (i : Int) (hi : (Lit.int .i64 i).wf = true) (v : Value) (p : List (List UInt8)) (hH : HsAt w v p) (hn : p.length ≤ 4611686018427387904) (other : List UInt8) (hot : other.length = 32) (hK : KT w) :
    Calls Tryd.prog 4 #[.agg (u8s leaf).toArray, .int .i64 i, v, .agg (u8s other).toArray] w fun e w' => e = .returned (.bool true) ∧ Below w.heap.size w w' := by
  have HK := hidp hK
  have hkp := hK.pos
  have c1 := hidp (fun W (h : HsAt W v p) (hk : KT W) => climb_any W leaf hlf i hi v p h hk)
  have c2 := hidp (fun W (h : HsAt W v p) => rclimb_any W leaf hlf i hi v p h)
  have hrl := climbV_len leaf i p hlf
  obtain ⟨R, hR⟩ : ∃ R, climbV leaf i p = R := ⟨_, rfl⟩
  obtain ⟨E1, hE1⟩ : ∃ n, climbE p.length i = n := ⟨_, rfl⟩
  rw [hR, hE1] at c1 c2
  rw [hR] at hrl
  obtain ⟨a, c, hve⟩ := hH.form
  obtain ⟨n, hnn⟩ : ∃ n, p.length = n := ⟨_, rfl⟩
  rw [hnn] at hve
  subst hve
  have HH := hidp hH
  have hzl := abvL_len leaf other
  obtain ⟨z, hz⟩ : ∃ z, abvL leaf other = z := ⟨_, rfl⟩
  have HZ := hidp hz
  rw [hz] at hzl
  clear hR hE1 hH hK hnn hn hz
  go_enter Tryd.func4, Tryd.ntmps4
  go_wp2_with (first
    | (refine wpL_box rfl (.tmp 0) rfl (u8s leaf) rfl ?_; intro b1 w1 n1)
    | (refine wpL_box rfl (.tmp 3) rfl (u8s other) rfl ?_; intro b2 w2 n2
       have hB2 := hidp (n1.below.trans (n2.below.mono n1.below.size))
       have hV2 := hidp (show VarsAt w2 [(b1, leaf), (b2, other)] from fun x hx => by
         simp at hx; rcases hx with rfl | rfl
         · exact n2.old n1.arr
         · exact n2.arr)
       clear n1 n2)
    | (refine wpL_get rfl (.tmp 4) rfl b1 leaf rfl hlf (hV2.out (b1, leaf) (by simp)) ?_)
    | (go_at_call 22; refine (c1.out _ (HH.out.to hB2.out) (HK.out.below hB2.out hkp)).mono ?_; rintro e w3 ⟨rfl, hb3⟩
       have hB3 := hidp (hB2.out.trans (hb3.mono hB2.out.size)); have hV3 := hidp (hV2.out.to hb3); clear hb3 hV2)
    | (refine wpL_newD 9 rfl rfl rfl ?_; intro b3 w4 n4)
    | (refine wpL_put rfl (.tmp 9) (.tmp 18) rfl b3 R rfl rfl hrl (u8s z32) rfl n4.arr ?_; intro w5 ha5 hp5
       have hB5 := hidp (hB3.out.trans ((n4.put hp5).mono hB3.out.size)); have hV5 := hidp (hV3.out.push n4 hp5 ha5); clear n4 hp5 ha5 hV3)
    | (refine wpL_get rfl (.tmp 4) rfl b1 leaf rfl hlf (hV5.out (b1, leaf) (by simp)) ?_)
    | (go_at_call 23; refine (c2.out _ (HH.out.to hB5.out)).mono ?_; rintro e w6 ⟨rfl, hb6⟩
       have hB6 := hidp (hB5.out.trans (hb6.mono hB5.out.size)); have hV6 := hidp (hV5.out.to hb6); clear hb6 hV5)
    | (refine wpL_newD 11 rfl rfl rfl ?_; intro b4 w7 n7)
    | (refine wpL_put rfl (.tmp 11) (.tmp 25) rfl b4 R rfl rfl hrl (u8s z32) rfl n7.arr ?_; intro w8 ha8 hp8
       have hB8 := hidp (hB6.out.trans ((n7.put hp8).mono hB6.out.size)); have hV8 := hidp (hV6.out.push n7 hp8 ha8); clear n7 hp8 ha8 hV6))
  have hN := hB8.out.size
  have hK8 := hidp (HK.out.below hB8.out hkp)
  have cls := hidp (show ∀ b l, (b, l) ∈ [(b4, R), (b3, R), (b1, leaf), (b2, other)] → ∀ u, Cls w8.heap.size w8 u → u.rangeAt b 0 (u8s l) from fun b l h u hu => rangeAt_below (hV8.out (b, l) h).range hu (hV8.out (b, l) h).lt)
  have r1 := hidp (cls.out b1 leaf (by simp)); have r2 := hidp (cls.out b2 other (by simp)); have r3 := hidp (cls.out b3 R (by simp)); have r4 := hidp (cls.out b4 R (by simp))
  have kL := hidp (show ∀ u, Cls w8.heap.size w8 u → Calls Tryd.prog 20 #[] u fun e w' => e = .returned (.bool true) ∧ Cls w8.heap.size w8 w' from fun u hu =>
    (lives3_any u (hu.kt hK8.out (by omega))).mono fun e w' ⟨h1, h2⟩ => ⟨h1, hu.step (Nat.le_refl _) h2⟩)
  have kA := hidp (show ∀ u, Cls w8.heap.size w8 u → Calls Tryd.prog 24 #[.agg (u8s leaf).toArray, .agg (u8s other).toArray] u fun e w' => e = .returned (.agg (u8s z).toArray) ∧ Cls w8.heap.size w8 w' from fun u hu =>
    (above_any u leaf other hlf hot (hu.kt hK8.out (by omega))).mono fun e w' ⟨h1, h2⟩ => ⟨by rw [← HZ.out]; exact h1, hu.step (Nat.le_refl _) h2⟩)
  have kB := hidp (show ∀ u, Cls w8.heap.size w8 u → Calls Tryd.prog 25 #[.agg (u8s leaf).toArray, .agg (u8s other).toArray] u fun e w' => e = .returned (.agg (u8s z).toArray) ∧ Cls w8.heap.size w8 w' from fun u hu =>
    (rabove_any u leaf other hlf hot).mono fun e w' ⟨h1, h2⟩ => ⟨by rw [← HZ.out]; exact h1, hu.step (Nat.le_refl _) h2⟩)
  clear cls hV8
  refine wp_region_quiet (C := Cls w8.heap.size w8) (by kernel_rfl) (by kernel_rfl) (Cls.start _ _) ?_
  simp only []
  repeat (first
    | (refine q_get ?_ (.tmp 4) rfl b1 leaf rfl hlf r1.out ?_
       · rfl
       simp only [Act.put, List.setIfInBounds_toArray, List.set_cons_zero, List.set_cons_succ])
    | (refine q_get ?_ (.tmp 7) rfl b2 other rfl hot r2.out ?_
       · rfl
       simp only [Act.put, List.setIfInBounds_toArray, List.set_cons_zero, List.set_cons_succ])
    | (refine q_get ?_ (.tmp 9) rfl b3 R rfl hrl r3.out ?_
       · rfl
       simp only [Act.put, List.setIfInBounds_toArray, List.set_cons_zero, List.set_cons_succ])
    | (refine q_get ?_ (.tmp 11) rfl b4 R rfl hrl r4.out ?_
       · rfl
       simp only [Act.put, List.setIfInBounds_toArray, List.set_cons_zero, List.set_cons_succ])
    | (refine q_eql ?_ (.tmp 29) (.tmp 30) _ rfl R R rfl rfl hrl hrl true (decide_eq_true rfl) ?_
       · rfl
       simp only [Act.put, List.setIfInBounds_toArray, List.set_cons_zero, List.set_cons_succ])
    | (refine q_eql ?_ (.tmp 41) (.tmp 44) _ rfl z z rfl rfl hzl hzl true (decide_eq_true rfl) ?_
       · rfl
       simp only [Act.put, List.setIfInBounds_toArray, List.set_cons_zero, List.set_cons_succ])
    | (refine q_call ?_ 20 #[] ?_ kL.out ?_
       · rfl
       · intro w; go_simp; done
       simp only [Act.put, List.setIfInBounds_toArray, List.set_cons_zero, List.set_cons_succ])
    | (refine q_call ?_ 24 #[.agg (u8s leaf).toArray, .agg (u8s other).toArray] ?_ kA.out ?_
       · rfl
       · intro w; go_simp; done
       simp only [Act.put, List.setIfInBounds_toArray, List.set_cons_zero, List.set_cons_succ])
    | (refine q_call ?_ 25 #[.agg (u8s leaf).toArray, .agg (u8s other).toArray] ?_ kB.out ?_
       · rfl
       · intro w; go_simp; done
       simp only [Act.put, List.setIfInBounds_toArray, List.set_cons_zero, List.set_cons_succ])
    | (apply q_val
       · rfl
       · intro w hw; go_simp; first | done | with_reducible rfl | rfl
       simp only [Act.put, List.setIfInBounds_toArray, List.set_cons_zero, List.set_cons_succ]))
  refine wpQuiet_nil ?_
  intro w9 hC
  have hBF := hidp (hB8.out.trans (Below.mono hC hN))
  go_wp2
  go_ret
  exact ⟨rfl, hBF.out⟩
end Go.Proofs.YtnaenhmcmnkdjaaDoor
