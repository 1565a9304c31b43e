
/-
  Tree: the law's lives.
-/
import Derived.Test.YtmbghbdhiihcnaaDoorTreC
namespace Go.Proofs.YtmbghbdhiihcnaaDoor
set_option maxRecDepth 100000
set_option linter.unusedVariables false
set_option linter.unusedSimpArgs false
open Go.RowKit

theorem ab_ne : shaL [97] ≠ shaL [98] := by
  rw [shaL_small _ (by decide), shaL_small _ (by decide)]
  decide +kernel
/-- Variables that hold hashes. -/
def VarsAt (W : World) (L : List (Nat × List UInt8)) : Prop := ∀ x ∈ L, Arr W x.1 23 (u8s x.2)
theorem VarsAt.nil (W : World) : VarsAt W [] := fun _ h => by cases h
theorem VarsAt.to {w W : World} {L : List (Nat × List UInt8)} (h : VarsAt w L) (hb : Below w.heap.size w W) : VarsAt W L := fun x hx => (h x hx).below hb (h x hx).lt
theorem VarsAt.push {w W W' : World} {L : List (Nat × List UInt8)} {b : Nat} {l : List UInt8} {xs : List Value} (h : VarsAt w L) (n : NewAt w W b 23 xs) (hp : Stp b W W') (ha : Arr W' b 23 (u8s l)) : VarsAt W' ((b, l) :: L) := fun x hx => by
  rcases List.mem_cons.1 hx with rfl | hx
  · exact ha
  · exact h.to (n.put hp) x hx
section
variable {ops : Array Oper} {S : World → Prop} {Q : Exit → Act → World → Prop} {sole : Nat → Bool} {k : Nat} {o : Oper} {rest : List Oper} {a : Act} {w : World}
theorem m_get (hk : sole k = false) (hw : Region.wanted o (yielded ops a.tmps) = true) (x : Operand) (ho : o.op = .load 23 x) (b : Nat) (l : List UInt8) (hx : a.eval x = .pointer (some ⟨b, 0, none⟩)) (hl : l.length = 32) (hS : ∀ w, S w → w.rangeAt b 0 (u8s l))
    (h : wpMix Tryd.prog ops Q S sole (k + 1) rest (a.put o.dst (.agg (u8s l).toArray)) w) : wpMix Tryd.prog ops Q S sole k (o :: rest) a w :=
  m_val hk hw (fun w hC => by
    unfold execOp
    simp only [ho, hx, Sem.run_bind, run_loadAt_mid w b 0 23 (u8s l) _ (hS w hC) hash_row rfl (by have := hash_size hl; simpa using this), Result.andThen_ok, Sem.run_pure]) h
theorem m_eql (hk : sole k = false) (hw : Region.wanted o (yielded ops a.tmps) = true) (x y : Operand) (u : TypeId) (ho : o.op = .binOp .eql 23 x y u) (l m : List UInt8) (hx : a.eval x = .agg (u8s l).toArray) (hy : a.eval y = .agg (u8s m).toArray) (hl : l.length = 32) (hm : m.length = 32) (b : Bool) (hb : decide (l = m) = b)
    (h : wpMix Tryd.prog ops Q S sole (k + 1) rest (a.put o.dst (.bool b)) w) : wpMix Tryd.prog ops Q S sole k (o :: rest) a w :=
  m_val hk hw (fun w hC => by
    unfold execOp
    simp only [ho, hx, hy, Sem.run_bind, run_eqGuard_agg (P := Tryd.prog) _ _ _ _ _ _ _ guard_hash, eql_hash w l m hl hm, hb, Result.andThen_ok, Sem.run_pure]) h
theorem m_neq (hk : sole k = false) (hw : Region.wanted o (yielded ops a.tmps) = true) (x y : Operand) (u : TypeId) (ho : o.op = .binOp .neq 23 x y u) (l m : List UInt8) (hx : a.eval x = .agg (u8s l).toArray) (hy : a.eval y = .agg (u8s m).toArray) (hl : l.length = 32) (hm : m.length = 32) (b : Bool) (hb : (!decide (l = m)) = b)
    (h : wpMix Tryd.prog ops Q S sole (k + 1) rest (a.put o.dst (.bool b)) w) : wpMix Tryd.prog ops Q S sole k (o :: rest) a w :=
  m_val hk hw (fun w hC => by
    unfold execOp
    simp only [ho, hx, hy, Sem.run_bind, run_eqGuard_agg (P := Tryd.prog) _ _ _ _ _ _ _ guard_hash, neq_hash w l m hl hm, hb, Result.andThen_ok, Sem.run_pure]) h
theorem m_bs1 (hk : sole k = true) (hw : Region.wanted o (yielded ops a.tmps) = true) (x : Operand) (ho : o.op = .buildSlice 24 1 #[(0, x)]) (l : List UInt8) (hx : a.eval x = .agg (u8s l).toArray) (hl : l.length = 32)
    (h : ∀ b W, NewAt w W b 23 (cat32 [l]) → S W ∧ wpMix Tryd.prog ops Q S sole (k + 1) rest (a.put o.dst (.slice (some ⟨b, 0, none⟩) 1 1)) W) : wpMix Tryd.prog ops Q S sole k (o :: rest) a w := by
  obtain ⟨h1, h2⟩ := h w.heap.size (w.alloc (.cells (cat32 [l]).toArray 23)) (NewAt.mk' _ _ _)
  refine m_make hk hw ?_ h1 h2
  unfold execOp
  simp only [ho, List.map_toArray, List.map_cons, List.map_nil, hx, Sem.run_bind, run_bs1 l hl, Result.andThen_ok, Sem.run_pure]
end
section
variable {ops : Array Oper} {rest : List Oper} {o : Oper} {a : Act} {w : World} {Q : Exit → Act → World → Prop}
theorem wpL_bs2 (hgd : o.guard = none) (x y : Operand) (ho : o.op = .buildSlice 24 2 #[(0, x), (1, y)]) (l m : List UInt8) (hx : a.eval x = .agg (u8s l).toArray) (hy : a.eval y = .agg (u8s m).toArray) (hl : l.length = 32) (hm : m.length = 32)
    (h : ∀ b W, NewAt w W b 23 (cat32 [l, m]) → wpList Tryd.prog ops Q rest (a.put o.dst (.slice (some ⟨b, 0, none⟩) 2 2)) W) : wpList Tryd.prog ops Q (o :: rest) a w := by
  refine wpList_plain hgd fun K hK => ?_
  have := hK _ _ (h w.heap.size (w.alloc (.cells (cat32 [l, m]).toArray 23)) (NewAt.mk' _ _ _))
  unfold Oper.wp execOp
  simp only [ho, List.map_toArray, List.map_cons, List.map_nil, hx, hy, Sem.run_bind, run_bs2 l m hl hm, Result.andThen_ok]
  exact this
theorem wpL_bs3 (hgd : o.guard = none) (x y z : Operand) (ho : o.op = .buildSlice 24 3 #[(0, x), (1, y), (2, z)]) (l m q : List UInt8) (hx : a.eval x = .agg (u8s l).toArray) (hy : a.eval y = .agg (u8s m).toArray) (hz : a.eval z = .agg (u8s q).toArray) (hl : l.length = 32) (hm : m.length = 32) (hq : q.length = 32)
    (h : ∀ b W, NewAt w W b 23 (cat32 [l, m, q]) → wpList Tryd.prog ops Q rest (a.put o.dst (.slice (some ⟨b, 0, none⟩) 3 3)) W) : wpList Tryd.prog ops Q (o :: rest) a w := by
  refine wpList_plain hgd fun K hK => ?_
  have := hK _ _ (h w.heap.size (w.alloc (.cells (cat32 [l, m, q]).toArray 23)) (NewAt.mk' _ _ _))
  unfold Oper.wp execOp
  simp only [ho, List.map_toArray, List.map_cons, List.map_nil, hx, hy, hz, Sem.run_bind, run_bs3 l m q hl hm hq, Result.andThen_ok]
  exact this
end
theorem a32_1 {a : List UInt8} (ha : a.length = 32) : All32 [a] := All32.one ha
theorem a32_2 {a b : List UInt8} (ha : a.length = 32) (hb : b.length = 32) : All32 [a, b] := fun x hx => by
  simp at hx; rcases hx with rfl | rfl <;> assumption
theorem a32_3 {a b c : List UInt8} (ha : a.length = 32) (hb : b.length = 32) (hc : c.length = 32) : All32 [a, b, c] := fun x hx => by
  simp at hx; rcases hx with rfl | rfl | rfl <;> assumption
set_option maxHeartbeats 16000000 in
theorem lives3_any (w : World) (hK : KT w) : Calls Tryd.prog 12 #[] w fun e w' => e = .returned (.bool true) ∧ Below w.heap.size w w' := by
  have hne := ab_ne
  have cA := hidp (show ∀ W, KT W → Calls Tryd.prog 49 #[.string ⟨#[97]⟩] W fun e w' => e = .returned (.agg (u8s (shaL [97])).toArray) ∧ Below W.heap.size W w' from fun W h => sum_any W ⟨#[97]⟩ (by decide) h)
  have cB := hidp (show ∀ W, KT W → Calls Tryd.prog 49 #[.string ⟨#[98]⟩] W fun e w' => e = .returned (.agg (u8s (shaL [98])).toArray) ∧ Below W.heap.size W w' from fun W h => sum_any W ⟨#[98]⟩ (by decide) h)
  have hal := shaL_len [97]
  have hbl := shaL_len [98]
  obtain ⟨A, hA⟩ : ∃ A, shaL [97] = A := ⟨_, rfl⟩
  obtain ⟨B, hB⟩ : ∃ A, shaL [98] = A := ⟨_, rfl⟩
  rw [hA] at hne cA hal
  rw [hB] at hne cB hbl
  clear hA hB
  have eR2 : rootV [A, B] = abvL A B ∧ rootE 2 = 0 := ⟨by
    unfold rootV; rw [if_pos (show fitN [A, B].length = true from (show fitN 2 = true from by decide)), show hiN [A, B].length = 1 from hiN_pow 1, refR_succ]
    show abvL (refR 0 [A]) (refR 0 [B]) = _; rw [refR_zero, refR_zero], by decide⟩
  have eR3 : rootV [A, B, A] = z32 ∧ rootE 3 = 1 := ⟨by unfold rootV; rw [if_neg (show ¬ fitN [A, B, A].length = true from (show ¬ fitN 3 = true from by decide))], by decide⟩
  have eR1 : rootV [A] = A ∧ rootE 1 = 0 := ⟨by unfold rootV; rw [if_pos (show fitN [A].length = true from (show fitN 1 = true from by decide)), show hiN [A].length = 0 from hiN_pow 0, refR_zero], by decide⟩
  have eP : pathV [A, B] 1 = [A] ∧ pathE 2 1 = 0 := ⟨by
    unfold pathV; rw [if_pos (show okP [A, B].length 1 = true from (show okP 2 1 = true from by decide)), show hiN [A, B].length = 1 from hiN_pow 1, refP_succ, if_neg (by decide)]
    show refP 0 [B] 0 ++ [refR 0 [A]] = _
    rw [refP_zero, refR_zero]; rfl, by decide⟩
  have eC1 : climbV B 1 [A] = abvL A B ∧ climbE 1 1 = 0 := ⟨by unfold climbV; rw [if_pos (show okC [A].length 1 = true from (show okC 1 1 = true from by decide))]; show climbL B 1 [A] = _; rw [climbL, if_neg (by decide)]; rfl, by decide⟩
  have eC2 : climbV B 2 [A] = z32 ∧ climbE 1 2 = 1 := ⟨by unfold climbV; rw [if_neg (show ¬ okC [A].length 2 = true from (show ¬ okC 1 2 = true from by decide))], by decide⟩
  have cR2 := hidp (show ∀ W v, HsAt W v [A, B] → KT W → Calls Tryd.prog 50 #[v] W fun e w' => e = .returned (.tuple #[.agg (u8s (abvL A B)).toArray, .int .i64 0]) ∧ Below W.heap.size W w' from fun W v h hk => by
    have := root_any W v [A, B] h (by simp) hk; rw [eR2.1, show [A, B].length = 2 from rfl, eR2.2] at this; exact this)
  have cR3 := hidp (show ∀ W v, HsAt W v [A, B, A] → KT W → Calls Tryd.prog 50 #[v] W fun e w' => e = .returned (.tuple #[.agg (u8s z32).toArray, .int .i64 1]) ∧ Below W.heap.size W w' from fun W v h hk => by
    have := root_any W v [A, B, A] h (by simp) hk; rw [eR3.1, show [A, B, A].length = 3 from rfl, eR3.2] at this; exact this)
  have cR1 := hidp (show ∀ W v, HsAt W v [A] → KT W → Calls Tryd.prog 50 #[v] W fun e w' => e = .returned (.tuple #[.agg (u8s A).toArray, .int .i64 0]) ∧ Below W.heap.size W w' from fun W v h hk => by
    have := root_any W v [A] h (by simp) hk; rw [eR1.1, show [A].length = 1 from rfl, eR1.2] at this; exact this)
  have cP := hidp (show ∀ W v, HsAt W v [A, B] → KT W → Calls Tryd.prog 51 #[v, .int .i64 1] W fun e w' => ∃ v', e = .returned (.tuple #[v', .int .i64 0]) ∧ OwnH w' W.heap.size v' [A] ∧ Below W.heap.size W w' from fun W v h hk => by
    have := path_any W v [A, B] 1 (by decide) h (by simp) hk; rw [eP.1, show [A, B].length = 2 from rfl, eP.2] at this; exact this)
  have cC1 := hidp (show ∀ W v, HsAt W v [A] → KT W → Calls Tryd.prog 13 #[.agg (u8s B).toArray, .int .i64 1, v] W fun e w' => e = .returned (.tuple #[.agg (u8s (abvL A B)).toArray, .int .i64 0]) ∧ Below W.heap.size W w' from fun W v h hk => by
    have := climb_any W B hbl 1 (by decide) v [A] h hk; rw [eC1.1, show [A].length = 1 from rfl, eC1.2] at this; exact this)
  have cC2 := hidp (show ∀ W v, HsAt W v [A] → KT W → Calls Tryd.prog 13 #[.agg (u8s B).toArray, .int .i64 2, v] W fun e w' => e = .returned (.tuple #[.agg (u8s z32).toArray, .int .i64 1]) ∧ Below W.heap.size W w' from fun W v h hk => by
    have := climb_any W B hbl 2 (by decide) v [A] h hk; rw [eC2.1, show [A].length = 1 from rfl, eC2.2] at this; exact this)
  have cAb := hidp (fun W (h : KT W) => above_any W A B hal hbl h)
  have cS := hidp (show ∀ W, KT W → Calls Tryd.prog 49 #[.string ((⟨#[1]⟩ : ByteArray) ++ mkS A ++ mkS B)] W fun e w' => e = .returned (.agg (u8s (abvL A B)).toArray) ∧ Below W.heap.size W w' from fun W h => by
    have := sum_any W (mkS (txtL A B)) (by rw [mkS_size, txtL_len A B hal hbl]; omega) h
    rw [mkS_data] at this; rw [txt_cat, abvL_eq]; exact this)
  have cSm := hidp (show ∀ W va vb, HsAt W va [A] → HsAt W vb [A] → Calls Tryd.prog 14 #[va, vb] W fun e w' => e = .returned (.bool true) ∧ Below W.heap.size W w' from fun W va vb ha hb => by
    have := same_any W va vb [A] [A] ha hb (by simp) (by simp); rw [decide_eq_true rfl] at this; exact this)
  have hrl := abvL_len A B
  obtain ⟨R, hR⟩ : ∃ R, abvL A B = R := ⟨_, rfl⟩
  rw [hR] at cR2 cC1 cAb cS hrl
  have HK := hidp hK
  have hkp := hK.pos
  have HNE := hidp hne
  clear hR eR2 eR3 eR1 eP eC1 eC2 hK hne
  go_enter Tryd.func12, Tryd.ntmps12
  go_wp2_with (first
    | (go_at_call 49; refine (cA.out _ HK.out).mono ?_; rintro e w1 ⟨rfl, hb1⟩; clear cA
       have hB1 := hidp hb1; clear hb1)
    | (go_at_call 49; refine (cB.out _ (HK.out.below hB1.out hkp)).mono ?_; rintro e w2 ⟨rfl, hb2⟩; clear cB
       have hB2 := hidp (hB1.out.trans (hb2.mono hB1.out.size)); clear hb2)
    | (refine wpL_newD 1 rfl rfl rfl ?_; intro b1 w3 n3)
    | (refine wpL_newD 2 rfl rfl rfl ?_; intro b2 w4 n4)
    | (refine wpL_put rfl (.tmp 1) (.tmp 15) rfl b1 A rfl rfl hal (u8s z32) rfl (n4.old n3.arr) ?_; intro w5 ha5 hp5)
    | (refine wpL_put rfl (.tmp 2) (.tmp 16) rfl b2 B rfl rfl hbl (u8s z32) rfl (hp5.arr (by have := n3.lt; have := n4.at_; omega) n4.arr) ?_; intro w6 ha6 hp6
       have hq1 : Below w2.heap.size w2 w4 := n3.below.trans (n4.below.mono n3.below.size)
       have hq2 : Below w2.heap.size w4 w5 := hp5.below _ n3.le
       have hq3 : Below w2.heap.size w5 w6 := hp6.below _ (Nat.le_trans n3.below.size n4.le)
       have hB6 := hidp (hB2.out.trans ((hq1.trans (hq2.trans hq3)).mono hB2.out.size))
       clear hq1 hq2 hq3
       have hV6 := hidp (show VarsAt w6 [(b1, A), (b2, B)] from fun x hx => by
         simp at hx; rcases hx with rfl | rfl
         · exact hp6.arr (by have := n3.lt; have := n4.at_; omega) ha5
         · exact ha6)
       have h12 := hidp (show b1 ≠ b2 from by have := n3.lt; have := n4.at_; omega)
       clear hp6 ha6 hp5 ha5 n4 n3 hB1 hB2)
    | (refine wpL_get rfl (.tmp 1) rfl b1 A rfl hal (hV6.out (b1, A) (by simp)) ?_)
    | (refine wpL_get rfl (.tmp 2) rfl b2 B rfl hbl (hV6.out (b2, B) (by simp)) ?_)
    | (refine wpL_bs2 rfl (.tmp 18) (.tmp 19) rfl A B rfl rfl hal hbl ?_; intro b7 w7 n7
       have hV7 := hidp (hV6.out.to n7.below); have hB7 := hidp (hB6.out.trans (n7.below.mono hB6.out.size)))
    | (go_at_call 50; refine (cR2.out _ _ (HsAt.new n7 (a32_2 hal hbl) rfl) (HK.out.below hB7.out hkp)).mono ?_; rintro e w8 ⟨rfl, hb8⟩; clear cR2
       have hV8 := hidp (hV7.out.to hb8); have hB8 := hidp (hB7.out.trans (hb8.mono hB7.out.size)); clear hb8)
    | (refine wpL_newD 3 rfl rfl rfl ?_; intro b3 w9 n9)
    | (refine wpL_put rfl (.tmp 3) (.tmp 22) rfl b3 R rfl rfl hrl (u8s z32) rfl n9.arr ?_; intro w10 ha10 hp10
       have hV10 := hidp (hV8.out.push n9 hp10 ha10); have hB10 := hidp (hB8.out.trans ((n9.put hp10).mono hB8.out.size)); clear n9 hp10 ha10 hV6 hV7 hV8)
    | (refine wpL_get rfl (.tmp 1) rfl b1 A rfl hal (hV10.out (b1, A) (by simp)) ?_)
    | (refine wpL_get rfl (.tmp 2) rfl b2 B rfl hbl (hV10.out (b2, B) (by simp)) ?_)
    | (refine wpL_bs2 rfl (.tmp 25) (.tmp 26) rfl A B rfl rfl hal hbl ?_; intro b11 w11 n11
       have hV11 := hidp (hV10.out.to n11.below); have hB11 := hidp (hB10.out.trans (n11.below.mono hB10.out.size)))
    | (go_at_call 51; refine (cP.out _ _ (HsAt.new n11 (a32_2 hal hbl) rfl) (HK.out.below hB11.out hkp)).mono ?_; rintro e w12 ⟨vp, rfl, hop, hb12⟩
       obtain ⟨pa, pc, rfl⟩ := hop.hs.form
       have hH12 := hidp hop.hs
       have hV12 := hidp (hV11.out.to hb12); have hB12 := hidp (hB11.out.trans (hb12.mono hB11.out.size)); clear hb12 hop hV10 hV11)
    | (refine wpL_get rfl (.tmp 2) rfl b2 B rfl hbl (hV12.out (b2, B) (by simp)) ?_)
    | (go_at_call 13; refine (cC1.out _ _ hH12.out (HK.out.below hB12.out hkp)).mono ?_; rintro e w13 ⟨rfl, hb13⟩; clear cC1
       have hV13 := hidp (hV12.out.to hb13); have hB13 := hidp (hB12.out.trans (hb13.mono hB12.out.size)); have hH13 := hidp (hH12.out.to hb13); clear hb13)
    | (refine wpL_newD 7 rfl rfl rfl ?_; intro b7' w14 n14)
    | (refine wpL_put rfl (.tmp 7) (.tmp 35) rfl b7' R rfl rfl hrl (u8s z32) rfl n14.arr ?_; intro w15 ha15 hp15
       have hV15 := hidp (hV13.out.push n14 hp15 ha15); have hB15 := hidp (hB13.out.trans ((n14.put hp15).mono hB13.out.size)); have hH15 := hidp (hH13.out.to (n14.put hp15)); clear n14 hp15 ha15 hV12 hV13)
    | (refine wpL_get rfl (.tmp 1) rfl b1 A rfl hal (hV15.out (b1, A) (by simp)) ?_)
    | (refine wpL_get rfl (.tmp 2) rfl b2 B rfl hbl (hV15.out (b2, B) (by simp)) ?_)
    | (refine wpL_bs3 rfl (.tmp 38) (.tmp 39) (.tmp 40) rfl A B A rfl rfl rfl hal hbl hal ?_; intro b16 w16 n16
       have hV16 := hidp (hV15.out.to n16.below); have hB16 := hidp (hB15.out.trans (n16.below.mono hB15.out.size)); have hH16 := hidp (hH15.out.to n16.below))
    | (go_at_call 50; refine (cR3.out _ _ (HsAt.new n16 (a32_3 hal hbl hal) rfl) (HK.out.below hB16.out hkp)).mono ?_; rintro e w17 ⟨rfl, hb17⟩; clear cR3
       have hV17 := hidp (hV16.out.to hb17); have hB17 := hidp (hB16.out.trans (hb17.mono hB16.out.size)); have hH17 := hidp (hH16.out.to hb17); clear hb17 hV15 hV16)
    | (refine wpL_newD 9 rfl rfl rfl ?_; intro b9 w18 n18)
    | (refine wpL_put rfl (.tmp 9) (.tmp 43) rfl b9 z32 rfl rfl rfl (u8s z32) rfl n18.arr ?_; intro w19 ha19 hp19
       have hV19 := hidp (hV17.out.push n18 hp19 ha19); have hB19 := hidp (hB17.out.trans ((n18.put hp19).mono hB17.out.size)); have hH19 := hidp (hH17.out.to (n18.put hp19)); clear n18 hp19 ha19 hV17)
    | (refine wpL_get rfl (.tmp 2) rfl b2 B rfl hbl (hV19.out (b2, B) (by simp)) ?_)
    | (go_at_call 13; refine (cC2.out _ _ hH19.out (HK.out.below hB19.out hkp)).mono ?_; rintro e w20 ⟨rfl, hb20⟩; clear cC2
       have hV20 := hidp (hV19.out.to hb20); have hB20 := hidp (hB19.out.trans (hb20.mono hB19.out.size)); have hH20 := hidp (hH19.out.to hb20); clear hb20)
    | (refine wpL_newD 11 rfl rfl rfl ?_; intro b11' w21 n21)
    | (refine wpL_put rfl (.tmp 11) (.tmp 49) rfl b11' z32 rfl rfl rfl (u8s z32) rfl n21.arr ?_; intro w22 ha22 hp22
       have hV22 := hidp (hV20.out.push n21 hp22 ha22); have hB22 := hidp (hB20.out.trans ((n21.put hp22).mono hB20.out.size)); have hH22 := hidp (hH20.out.to (n21.put hp22)); clear n21 hp22 ha22 hV19 hV20)
    | (refine wpL_get rfl (.tmp 1) rfl b1 A rfl hal (hV22.out (b1, A) (by simp)) ?_)
    | (refine wpL_bs1 rfl (.tmp 52) rfl A rfl hal ?_; intro b23 w23 n23
       have hV23 := hidp (hV22.out.to n23.below); have hB23 := hidp (hB22.out.trans (n23.below.mono hB22.out.size)); have hH23 := hidp (hH22.out.to n23.below))
    | (go_at_call 50; refine (cR1.out _ _ (HsAt.new n23 (a32_1 hal) rfl) (HK.out.below hB23.out hkp)).mono ?_; rintro e w24 ⟨rfl, hb24⟩; clear cR1
       have hV24 := hidp (hV23.out.to hb24); have hB24 := hidp (hB23.out.trans (hb24.mono hB23.out.size)); have hH24 := hidp (hH23.out.to hb24); clear hb24)
    | (refine wpL_newD 13 rfl rfl rfl ?_; intro b13 w25 n25)
    | (refine wpL_put rfl (.tmp 13) (.tmp 55) rfl b13 A rfl rfl hal (u8s z32) rfl n25.arr ?_; intro w26 ha26 hp26
       have hV26 := hidp (hV24.out.push n25 hp26 ha26); have hB26 := hidp (hB24.out.trans ((n25.put hp26).mono hB24.out.size)); have hH26 := hidp (hH24.out.to (n25.put hp26)); clear n25 hp26 ha26 hV22 hV23 hV24))
  have hN := hB26.out.size
  have cls := hidp (show ∀ b l, (b, l) ∈ [(b13, A), (b11', z32), (b9, z32), (b7', R), (b3, R), (b1, A), (b2, B)] → ∀ u, Cls w26.heap.size w26 u → u.rangeAt b 0 (u8s l) from fun b l h u hu => rangeAt_below (hV26.out (b, l) h).range hu (hV26.out (b, l) h).lt)
  have r1 := hidp (cls.out b1 A (by simp)); have r2 := hidp (cls.out b2 B (by simp)); have r3 := hidp (cls.out b3 R (by simp)); have r7 := hidp (cls.out b7' R (by simp)); have r13 := hidp (cls.out b13 A (by simp))
  obtain ⟨SA, hSA⟩ : ∃ S, mkS A = S := ⟨_, rfl⟩
  obtain ⟨SB, hSB⟩ : ∃ S, mkS B = S := ⟨_, rfl⟩
  have hSAs : SA.size = 32 := by rw [← hSA, mkS_size, hal]
  have hSBs : SB.size = 32 := by rw [← hSB, mkS_size, hbl]
  have cvA := hidp (str_cls (N := w26.heap.size) b1 A hal (hV26.out (b1, A) (by simp)) (hV26.out (b1, A) (by simp)).lt SA hSA)
  have cvB := hidp (str_cls (N := w26.heap.size) b2 B hbl (hV26.out (b2, B) (by simp)) (hV26.out (b2, B) (by simp)).lt SB hSB)
  rw [hSA, hSB] at cS
  have hK26 := hidp (HK.out.below hB26.out hkp)
  have kA := hidp (show ∀ u, Cls w26.heap.size w26 u → Calls Tryd.prog 52 #[.agg (u8s A).toArray, .agg (u8s B).toArray] u fun e w' => ∃ v, e = .returned v ∧ (v = .agg (u8s R).toArray ∧ Cls w26.heap.size w26 w') from fun u hu =>
    (cAb.out u (hu.kt hK26.out (by omega))).mono fun e w' ⟨h1, h2⟩ => ⟨_, h1, rfl, hu.step (Nat.le_refl _) h2⟩)
  have kS := hidp (show ∀ u, Cls w26.heap.size w26 u → Calls Tryd.prog 49 #[.string ((⟨#[1]⟩ : ByteArray) ++ SA ++ SB)] u fun e w' => ∃ v, e = .returned v ∧ (v = .agg (u8s R).toArray ∧ Cls w26.heap.size w26 w') from fun u hu =>
    (cS.out u (hu.kt hK26.out (by omega))).mono fun e w' ⟨h1, h2⟩ => ⟨_, h1, rfl, hu.step (Nat.le_refl _) h2⟩)
  have kM := hidp (show ∀ u vb, Cls w26.heap.size w26 u → HsAt u vb [A] → Calls Tryd.prog 14 #[.slice pa [A].length pc, vb] u fun e w' => ∃ v, e = .returned v ∧ (v = .bool true ∧ Cls w26.heap.size w26 w') from fun u vb hu hb =>
    (cSm.out u _ vb (hH26.out.to hu) hb).mono fun e w' ⟨h1, h2⟩ => ⟨_, h1, rfl, hu.step (Nat.le_refl _) h2⟩)
  have hab := hidp (show (!decide (A = B)) = true from by simpa using HNE.out)
  clear hSA hSB cAb cS cSm cls hV26 hH26
  refine wp_region_noPanic ?_
  refine wp_region_mixed (Cls w26.heap.size w26) (fun k => k == 6 || k == 17 || k == 27 || k == 28) (by kernel_rfl) (by kernel_rfl) (fun _ _ _ _ _ h => h) (by kernel_rfl) (Cls.start _ _) ?_
  intro u hC
  simp only []
  repeat (first
    | (refine m_get rfl ?_ (.tmp 1) rfl b1 A rfl hal r1.out ?_
       · rfl
       simp only [Act.put, List.setIfInBounds_toArray, List.set_cons_zero, List.set_cons_succ])
    | (refine m_get rfl ?_ (.tmp 2) rfl b2 B rfl hbl r2.out ?_
       · rfl
       simp only [Act.put, List.setIfInBounds_toArray, List.set_cons_zero, List.set_cons_succ])
    | (refine m_get rfl ?_ (.tmp 3) rfl b3 R rfl hrl r3.out ?_
       · rfl
       simp only [Act.put, List.setIfInBounds_toArray, List.set_cons_zero, List.set_cons_succ])
    | (refine m_get rfl ?_ (.tmp 7) rfl b7' R rfl hrl r7.out ?_
       · rfl
       simp only [Act.put, List.setIfInBounds_toArray, List.set_cons_zero, List.set_cons_succ])
    | (refine m_get rfl ?_ (.tmp 13) rfl b13 A rfl hal r13.out ?_
       · rfl
       simp only [Act.put, List.setIfInBounds_toArray, List.set_cons_zero, List.set_cons_succ])
    | (refine m_eql rfl ?_ (.tmp 60) (.tmp 63) _ rfl R R rfl rfl hrl hrl true (decide_eq_true rfl) ?_
       · rfl
       simp only [Act.put, List.setIfInBounds_toArray, List.set_cons_zero, List.set_cons_succ])
    | (refine m_eql rfl ?_ (.tmp 67) (.tmp 74) _ rfl R R rfl rfl hrl hrl true (decide_eq_true rfl) ?_
       · rfl
       simp only [Act.put, List.setIfInBounds_toArray, List.set_cons_zero, List.set_cons_succ])
    | (refine m_eql rfl ?_ (.tmp 88) (.tmp 89) _ rfl R R rfl rfl hrl hrl true (decide_eq_true rfl) ?_
       · rfl
       simp only [Act.put, List.setIfInBounds_toArray, List.set_cons_zero, List.set_cons_succ])
    | (refine m_eql rfl ?_ (.tmp 105) (.tmp 106) _ rfl A A rfl rfl hal hal true (decide_eq_true rfl) ?_
       · rfl
       simp only [Act.put, List.setIfInBounds_toArray, List.set_cons_zero, List.set_cons_succ])
    | (refine m_neq rfl ?_ (.tmp 114) (.tmp 115) _ rfl A B rfl rfl hal hbl true hab.out ?_
       · rfl
       simp only [Act.put, List.setIfInBounds_toArray, List.set_cons_zero, List.set_cons_succ])
    | (refine m_call (R := fun v u' => v = .agg (u8s R).toArray ∧ Cls w26.heap.size w26 u') rfl ?_ 52 _ ?_ (kA.out _ hC) ?_
       · rfl
       · go_simp; done
       rintro v u' ⟨rfl, hC'⟩
       refine ⟨hC', ?_⟩
       clear hC
       have hC := hC'
       clear hC'
       simp only [Act.put, List.setIfInBounds_toArray, List.set_cons_zero, List.set_cons_succ])
    | (refine m_call (R := fun v u' => v = .agg (u8s R).toArray ∧ Cls w26.heap.size w26 u') rfl ?_ 49 _ ?_ (kS.out _ hC) ?_
       · rfl
       · go_simp; done
       rintro v u' ⟨rfl, hC'⟩
       refine ⟨hC', ?_⟩
       clear hC
       have hC := hC'
       clear hC'
       simp only [Act.put, List.setIfInBounds_toArray, List.set_cons_zero, List.set_cons_succ])
    | (refine m_bs1 rfl ?_ (.tmp 83) rfl A rfl hal ?_
       · rfl
       intro bb u' nb
       have hHb := hidp (HsAt.new nb (a32_1 hal) rfl)
       refine ⟨hC.step (Nat.le_refl _) nb.below, ?_⟩
       have hC' := hC.step (Nat.le_refl _) nb.below
       clear hC
       have hC := hC'
       clear hC'
       simp only [Act.put, List.setIfInBounds_toArray, List.set_cons_zero, List.set_cons_succ])
    | (refine m_call (R := fun v u' => v = .bool true ∧ Cls w26.heap.size w26 u') rfl ?_ 14 _ ?_ (kM.out _ _ hC hHb.out) ?_
       · rfl
       · go_simp; done
       rintro v u' ⟨rfl, hC'⟩
       refine ⟨hC', ?_⟩
       clear hC
       have hC := hC'
       clear hC'
       simp only [Act.put, List.setIfInBounds_toArray, List.set_cons_zero, List.set_cons_succ])
    | (refine m_val (v := .string SA) rfl ?_ ?_ ?_
       · rfl
       · intro w hw; have hx := cvA.out w hw; go_simp; done
       simp only [Act.put, List.setIfInBounds_toArray, List.set_cons_zero, List.set_cons_succ])
    | (refine m_val (v := .string SB) rfl ?_ ?_ ?_
       · rfl
       · intro w hw; have hx := cvB.out w hw; go_simp; done
       simp only [Act.put, List.setIfInBounds_toArray, List.set_cons_zero, List.set_cons_succ])
    | (apply m_val rfl
       · rfl
       · intro w hw; go_simp; first | done | with_reducible rfl | rfl
       simp only [Act.put, List.setIfInBounds_toArray, List.set_cons_zero, List.set_cons_succ]))
  refine m_nil ?_
  refine NoPanic.normal ?_
  have hBF := hidp (hB26.out.trans (Below.mono hC hN))
  go_wp2
  go_ret
  exact ⟨rfl, hBF.out⟩
end Go.Proofs.YtmbghbdhiihcnaaDoor
