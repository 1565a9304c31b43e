
/-
  Tree: the walk of TreeOther.
-/
import Derived.Test.YtmbghbdhiihcnaaDoorTrX
namespace Go.Proofs.YtmbghbdhiihcnaaDoor
set_option maxRecDepth 100000
set_option linter.unusedVariables false
set_option linter.unusedSimpArgs false
open Go.RowKit

section
variable {ops : Array Oper} {rest : List Oper} {o : Oper} {a : Act} {w : World} {Q : Exit → Act → World → Prop}
theorem wpL_asgn (hw : Region.wanted o (yielded ops a.tmps) = true) (x : Operand) (ho : o.op = .assign x) (v : Value) (hx : a.eval x = v) (h : wpList Tryd.prog ops Q rest (a.put o.dst v) w) : wpList Tryd.prog ops Q (o :: rest) a w :=
  wpL_valg hw v (by unfold execOp; simp only [ho, hx, Sem.run_pure]) h
theorem wpL_get2 (x : Operand) (ho : o.op = .load 23 x) (hw : Region.wanted o (yielded ops a.tmps) = true) (b : Nat) (l : List UInt8) (hx : a.eval x = .pointer (some ⟨b, 0, none⟩)) (hl : l.length = 32) (hg : Arr w b 23 (u8s l))
    (h : wpList Tryd.prog ops Q rest (a.put o.dst (.agg (u8s l).toArray)) w) : wpList Tryd.prog ops Q (o :: rest) a w := wpL_getg hw x ho b l hx hl hg h
theorem wpL_neq2 (x y : Operand) (u : TypeId) (ho : o.op = .binOp .neq 23 x y u) (hw : Region.wanted o (yielded ops a.tmps) = true) (l m : List UInt8) (hx : a.eval x = .agg (u8s l).toArray) (hy : a.eval y = .agg (u8s m).toArray) (hl : l.length = 32) (hm : m.length = 32) (b : Bool) (hb : (!decide (l = m)) = b)
    (h : wpList Tryd.prog ops Q rest (a.put o.dst (.bool b)) w) : wpList Tryd.prog ops Q (o :: rest) a w := wpL_neqg hw x y u ho l m hx hy hl hm b hb h
theorem wpL_eql2 (x y : Operand) (u : TypeId) (ho : o.op = .binOp .eql 23 x y u) (hw : Region.wanted o (yielded ops a.tmps) = true) (l m : List UInt8) (hx : a.eval x = .agg (u8s l).toArray) (hy : a.eval y = .agg (u8s m).toArray) (hl : l.length = 32) (hm : m.length = 32) (b : Bool) (hb : decide (l = m) = b)
    (h : wpList Tryd.prog ops Q rest (a.put o.dst (.bool b)) w) : wpList Tryd.prog ops Q (o :: rest) a w := wpL_eqlg hw x y u ho l m hx hy hl hm b hb h
theorem wpL_skipg (hw : Region.wanted o (yielded ops a.tmps) = false) (h : wpList Tryd.prog ops Q rest (a.put o.dst undef) w) : wpList Tryd.prog ops Q (o :: rest) a w :=
  wpList_step fun K hK => by
    rw [if_neg (by rw [hw]; exact Bool.false_ne_true)]
    exact hK _ _ h
end
theorem wayL_small : ∀ (p : List (List UInt8)) (a : List UInt8) (i : Nat), a.length = 32 → All32 p → ∀ t ∈ wayL a i p, t.length = 65
  | [], _, _, _, _, t, h => by simp [wayL] at h
  | x :: p, a, i, ha, hp, t, h => by
    rw [wayL] at h
    have hx := hp x (by simp)
    rcases List.mem_cons.1 h with rfl | h
    · unfold stepT; split
      · exact txtL_len _ _ ha hx
      · exact txtL_len _ _ hx ha
    · exact wayL_small p _ _ (shaL_len _) hp.tail t h
theorem ownV_get {w : World} {B e : Nat} {v : Value} {l : List Value} (h : OwnV w B e v l) (hp : 0 < l.length) : ∃ g c, v = .slice (some ⟨g, 0, none⟩) l.length c ∧ ∀ w', Below w.heap.size w w' → ∀ j u, l[j]? = some u → w'.cell? ⟨g, j, none⟩ = some u := by
  have h' := h
  rcases h'.2 with ⟨rfl, hn⟩ | ⟨g, cap, cur, rfl, _⟩
  · have : l.length = 0 := hn
    omega
  · refine ⟨g, cap, rfl, fun w' hb j u hj => ?_⟩
    have := World.ownsRow.cells (h.kept hb (Nat.le_refl _)) (g := g) rfl j u hj
    rw [addr_add, Nat.zero_add] at this; exact this
theorem way_read {w : World} {B : Nat} {v : Value} {ts : List (List UInt8)} (h : OwnV w B 9 v (tv ts)) (hp : 0 < ts.length) : ∃ g c, v = .slice (some ⟨g, 0, none⟩) ts.length c ∧ ∀ w', Below w.heap.size w w' → ∀ j t, ts[j]? = some t → w'.cell? ⟨g, j, none⟩ = some (.string (mkS t)) := by
  obtain ⟨g, c, e, hc⟩ := ownV_get h (by rw [tv_len]; exact hp)
  rw [tv_len] at e
  exact ⟨g, c, e, fun w' hb j t ht => hc w' hb j _ (by simp [tv, ht])⟩
set_option maxHeartbeats 4000000 in
theorem other_A (w : World) (A B R1 R2 : List UInt8) (hal : A.length = 32) (hbl : B.length = 32) (hr1 : R1.length = 32) (hr2 : R2.length = 32) (i : Int) (ap aq : Option Addr) (n m cp cq : Nat) (p q : List (List UInt8))
    (HP : Hid (HsAt w (.slice ap n cp) p)) (HQ : Hid (HsAt w (.slice aq m cq) q)) (HK : Hid (KT w)) (hkp : 0 < w.heap.size) (L : Hid (∀ W, KT W → Calls Tryd.prog 12 #[] W fun e w' => e = .returned (.bool true) ∧ Below W.heap.size W w')) (e2 : Int)
    (c1 : Hid (∀ W, HsAt W (.slice ap n cp) p → KT W → Calls Tryd.prog 13 #[.agg (u8s A).toArray, .int .i64 i, .slice ap n cp] W fun e w' => e = .returned (.tuple #[.agg (u8s R1).toArray, .int .i64 1]) ∧ Below W.heap.size W w'))
    (c2 : Hid (∀ W, HsAt W (.slice aq m cq) q → KT W → Calls Tryd.prog 13 #[.agg (u8s B).toArray, .int .i64 i, .slice aq m cq] W fun e w' => e = .returned (.tuple #[.agg (u8s R2).toArray, .int .i64 e2]) ∧ Below W.heap.size W w')) :
    Calls Tryd.prog 3 #[.agg (u8s A).toArray, .agg (u8s B).toArray, .int .i64 i, .slice ap n cp, .slice aq m cq] w fun e w' => e = .returned (.bool true) ∧ Below w.heap.size w w' := by
  go_enter Tryd.func3, Tryd.ntmps3
  go_wp2_with (first
    | (refine wpL_box rfl (.tmp 0) rfl (u8s A) rfl ?_; intro b1 w1 n1)
    | (refine wpL_box rfl (.tmp 1) rfl (u8s B) rfl ?_; intro b2 w2 n2
       have hB2 := hidp (n1.below.trans (n2.below.mono n1.below.size))
       have hV2 := hidp (show VarsAt w2 [(b1, A), (b2, B)] from fun x hx => by
         simp at hx; rcases hx with rfl | rfl
         · exact n2.old n1.arr
         · exact n2.arr)
       clear n1 n2)
    | (go_at_call 12; refine (L.out _ (HK.out.below hB2.out hkp)).mono ?_; rintro e w3 ⟨rfl, hb3⟩
       have hB3 := hidp (hB2.out.trans (hb3.mono hB2.out.size)); have hV3 := hidp (hV2.out.to hb3); clear hb3 hV2)
    | (refine wpL_get rfl (.tmp 5) rfl b1 A rfl hal (hV3.out (b1, A) (by simp)) ?_)
    | (go_at_call 13; refine (c1.out _ (HP.out.to hB3.out) (HK.out.below hB3.out hkp)).mono ?_; rintro e w4 ⟨rfl, hb4⟩; clear c1
       have hB4 := hidp (hB3.out.trans (hb4.mono hB3.out.size)); have hV4 := hidp (hV3.out.to hb4); clear hb4 hV3)
    | (refine wpL_newD 11 rfl rfl rfl ?_; intro b3 w5 n5)
    | (refine wpL_put rfl (.tmp 11) (.tmp 27) rfl b3 R1 rfl rfl hr1 (u8s z32) rfl n5.arr ?_; intro w6 ha6 hp6
       have hB6 := hidp (hB4.out.trans ((n5.put hp6).mono hB4.out.size)); have hV6 := hidp (hV4.out.push n5 hp6 ha6); clear n5 hp6 ha6 hV4)
    | (refine wpL_get rfl (.tmp 6) rfl b2 B rfl hbl (hV6.out (b2, B) (by simp)) ?_)
    | (go_at_call 13; refine (c2.out _ (HQ.out.to hB6.out) (HK.out.below hB6.out hkp)).mono ?_; rintro e w7 ⟨rfl, hb7⟩; clear c2
       have hB7 := hidp (hB6.out.trans (hb7.mono hB6.out.size)); have hV7 := hidp (hV6.out.to hb7); clear hb7 hV6)
    | (refine wpL_newD 13 rfl rfl rfl ?_; intro b4 w8 n8)
    | (refine wpL_put rfl (.tmp 13) (.tmp 34) rfl b4 R2 rfl rfl hr2 (u8s z32) rfl n8.arr ?_; intro w9 ha9 hp9
       have hB9 := hidp (hB7.out.trans ((n8.put hp9).mono hB7.out.size)); have hV9 := hidp (hV7.out.push n8 hp9 ha9); clear n8 hp9 ha9 hV7
       simp only [Act.put, List.setIfInBounds_toArray, List.set_cons_zero, List.set_cons_succ]
       refine wpL_asgn rfl (.tmp 35) rfl (.int .i64 e2) rfl ?_
       simp only [Act.put, List.setIfInBounds_toArray, List.set_cons_zero, List.set_cons_succ]
       go_wp2_with (first
         | fail)
       go_ret
       exact ⟨rfl, hB9.out⟩))
set_option maxHeartbeats 4000000 in
theorem other_B (w : World) (A B R1 R2 : List UInt8) (hal : A.length = 32) (hbl : B.length = 32) (hr1 : R1.length = 32) (hr2 : R2.length = 32) (i : Int) (ap aq : Option Addr) (n m cp cq : Nat) (p q : List (List UInt8))
    (HP : Hid (HsAt w (.slice ap n cp) p)) (HQ : Hid (HsAt w (.slice aq m cq) q)) (HK : Hid (KT w)) (hkp : 0 < w.heap.size) (L : Hid (∀ W, KT W → Calls Tryd.prog 12 #[] W fun e w' => e = .returned (.bool true) ∧ Below W.heap.size W w'))
    (c1 : Hid (∀ W, HsAt W (.slice ap n cp) p → KT W → Calls Tryd.prog 13 #[.agg (u8s A).toArray, .int .i64 i, .slice ap n cp] W fun e w' => e = .returned (.tuple #[.agg (u8s R1).toArray, .int .i64 0]) ∧ Below W.heap.size W w'))
    (c2 : Hid (∀ W, HsAt W (.slice aq m cq) q → KT W → Calls Tryd.prog 13 #[.agg (u8s B).toArray, .int .i64 i, .slice aq m cq] W fun e w' => e = .returned (.tuple #[.agg (u8s R2).toArray, .int .i64 1]) ∧ Below W.heap.size W w')) :
    Calls Tryd.prog 3 #[.agg (u8s A).toArray, .agg (u8s B).toArray, .int .i64 i, .slice ap n cp, .slice aq m cq] w fun e w' => e = .returned (.bool true) ∧ Below w.heap.size w w' := by
  go_enter Tryd.func3, Tryd.ntmps3
  go_wp2_with (first
    | (refine wpL_box rfl (.tmp 0) rfl (u8s A) rfl ?_; intro b1 w1 n1)
    | (refine wpL_box rfl (.tmp 1) rfl (u8s B) rfl ?_; intro b2 w2 n2
       have hB2 := hidp (n1.below.trans (n2.below.mono n1.below.size))
       have hV2 := hidp (show VarsAt w2 [(b1, A), (b2, B)] from fun x hx => by
         simp at hx; rcases hx with rfl | rfl
         · exact n2.old n1.arr
         · exact n2.arr)
       clear n1 n2)
    | (go_at_call 12; refine (L.out _ (HK.out.below hB2.out hkp)).mono ?_; rintro e w3 ⟨rfl, hb3⟩
       have hB3 := hidp (hB2.out.trans (hb3.mono hB2.out.size)); have hV3 := hidp (hV2.out.to hb3); clear hb3 hV2)
    | (refine wpL_get rfl (.tmp 5) rfl b1 A rfl hal (hV3.out (b1, A) (by simp)) ?_)
    | (go_at_call 13; refine (c1.out _ (HP.out.to hB3.out) (HK.out.below hB3.out hkp)).mono ?_; rintro e w4 ⟨rfl, hb4⟩; clear c1
       have hB4 := hidp (hB3.out.trans (hb4.mono hB3.out.size)); have hV4 := hidp (hV3.out.to hb4); clear hb4 hV3)
    | (refine wpL_newD 11 rfl rfl rfl ?_; intro b3 w5 n5)
    | (refine wpL_put rfl (.tmp 11) (.tmp 27) rfl b3 R1 rfl rfl hr1 (u8s z32) rfl n5.arr ?_; intro w6 ha6 hp6
       have hB6 := hidp (hB4.out.trans ((n5.put hp6).mono hB4.out.size)); have hV6 := hidp (hV4.out.push n5 hp6 ha6); clear n5 hp6 ha6 hV4)
    | (refine wpL_get rfl (.tmp 6) rfl b2 B rfl hbl (hV6.out (b2, B) (by simp)) ?_)
    | (go_at_call 13; refine (c2.out _ (HQ.out.to hB6.out) (HK.out.below hB6.out hkp)).mono ?_; rintro e w7 ⟨rfl, hb7⟩; clear c2
       have hB7 := hidp (hB6.out.trans (hb7.mono hB6.out.size)); have hV7 := hidp (hV6.out.to hb7); clear hb7 hV6)
    | (refine wpL_newD 13 rfl rfl rfl ?_; intro b4 w8 n8)
    | (refine wpL_put rfl (.tmp 13) (.tmp 34) rfl b4 R2 rfl rfl hr2 (u8s z32) rfl n8.arr ?_; intro w9 ha9 hp9
       have hB9 := hidp (hB7.out.trans ((n8.put hp9).mono hB7.out.size)); have hV9 := hidp (hV7.out.push n8 hp9 ha9); clear n8 hp9 ha9 hV7
       simp only [Act.put, List.setIfInBounds_toArray, List.set_cons_zero, List.set_cons_succ]
       refine wpL_asgn rfl (.tmp 35) rfl (.int .i64 1) rfl ?_
       simp only [Act.put, List.setIfInBounds_toArray, List.set_cons_zero, List.set_cons_succ]
       go_wp2_with (first
         | fail)
       go_ret
       exact ⟨rfl, hB9.out⟩))
set_option maxHeartbeats 4000000 in
theorem other_C (w : World) (A B R1 R2 : List UInt8) (hal : A.length = 32) (hbl : B.length = 32) (hr1 : R1.length = 32) (hr2 : R2.length = 32) (i : Int) (ap aq : Option Addr) (n m cp cq : Nat) (p q : List (List UInt8))
    (HP : Hid (HsAt w (.slice ap n cp) p)) (HQ : Hid (HsAt w (.slice aq m cq) q)) (HK : Hid (KT w)) (hkp : 0 < w.heap.size) (L : Hid (∀ W, KT W → Calls Tryd.prog 12 #[] W fun e w' => e = .returned (.bool true) ∧ Below W.heap.size W w')) (hnm : (!decide ((n : Int) = (m : Int))) = true) (hnm2 : ((n : Int) == (m : Int)) = false) (hnm3 : ((n : Int) = (m : Int)) = False) (hnm4 : (n = m) = False)
    (c1 : Hid (∀ W, HsAt W (.slice ap n cp) p → KT W → Calls Tryd.prog 13 #[.agg (u8s A).toArray, .int .i64 i, .slice ap n cp] W fun e w' => e = .returned (.tuple #[.agg (u8s R1).toArray, .int .i64 0]) ∧ Below W.heap.size W w'))
    (c2 : Hid (∀ W, HsAt W (.slice aq m cq) q → KT W → Calls Tryd.prog 13 #[.agg (u8s B).toArray, .int .i64 i, .slice aq m cq] W fun e w' => e = .returned (.tuple #[.agg (u8s R2).toArray, .int .i64 0]) ∧ Below W.heap.size W w')) :
    Calls Tryd.prog 3 #[.agg (u8s A).toArray, .agg (u8s B).toArray, .int .i64 i, .slice ap n cp, .slice aq m cq] w fun e w' => e = .returned (.bool true) ∧ Below w.heap.size w w' := by
  go_enter Tryd.func3, Tryd.ntmps3
  go_wp2_with (first
    | (refine wpL_box rfl (.tmp 0) rfl (u8s A) rfl ?_; intro b1 w1 n1)
    | (refine wpL_box rfl (.tmp 1) rfl (u8s B) rfl ?_; intro b2 w2 n2
       have hB2 := hidp (n1.below.trans (n2.below.mono n1.below.size))
       have hV2 := hidp (show VarsAt w2 [(b1, A), (b2, B)] from fun x hx => by
         simp at hx; rcases hx with rfl | rfl
         · exact n2.old n1.arr
         · exact n2.arr)
       clear n1 n2)
    | (go_at_call 12; refine (L.out _ (HK.out.below hB2.out hkp)).mono ?_; rintro e w3 ⟨rfl, hb3⟩
       have hB3 := hidp (hB2.out.trans (hb3.mono hB2.out.size)); have hV3 := hidp (hV2.out.to hb3); clear hb3 hV2)
    | (refine wpL_get rfl (.tmp 5) rfl b1 A rfl hal (hV3.out (b1, A) (by simp)) ?_)
    | (go_at_call 13; refine (c1.out _ (HP.out.to hB3.out) (HK.out.below hB3.out hkp)).mono ?_; rintro e w4 ⟨rfl, hb4⟩; clear c1
       have hB4 := hidp (hB3.out.trans (hb4.mono hB3.out.size)); have hV4 := hidp (hV3.out.to hb4); clear hb4 hV3)
    | (refine wpL_newD 11 rfl rfl rfl ?_; intro b3 w5 n5)
    | (refine wpL_put rfl (.tmp 11) (.tmp 27) rfl b3 R1 rfl rfl hr1 (u8s z32) rfl n5.arr ?_; intro w6 ha6 hp6
       have hB6 := hidp (hB4.out.trans ((n5.put hp6).mono hB4.out.size)); have hV6 := hidp (hV4.out.push n5 hp6 ha6); clear n5 hp6 ha6 hV4)
    | (refine wpL_get rfl (.tmp 6) rfl b2 B rfl hbl (hV6.out (b2, B) (by simp)) ?_)
    | (go_at_call 13; refine (c2.out _ (HQ.out.to hB6.out) (HK.out.below hB6.out hkp)).mono ?_; rintro e w7 ⟨rfl, hb7⟩; clear c2
       have hB7 := hidp (hB6.out.trans (hb7.mono hB6.out.size)); have hV7 := hidp (hV6.out.to hb7); clear hb7 hV6)
    | (refine wpL_newD 13 rfl rfl rfl ?_; intro b4 w8 n8)
    | (refine wpL_put rfl (.tmp 13) (.tmp 34) rfl b4 R2 rfl rfl hr2 (u8s z32) rfl n8.arr ?_; intro w9 ha9 hp9
       have hB9 := hidp (hB7.out.trans ((n8.put hp9).mono hB7.out.size)); have hV9 := hidp (hV7.out.push n8 hp9 ha9); clear n8 hp9 ha9 hV7
       simp only [Act.put, List.setIfInBounds_toArray, List.set_cons_zero, List.set_cons_succ]
       refine wpL_asgn rfl (.tmp 35) rfl (.int .i64 0) rfl ?_
       simp only [Act.put, List.setIfInBounds_toArray, List.set_cons_zero, List.set_cons_succ]
       go_wp2_with (first
         | fail)
       go_ret
       exact ⟨rfl, hB9.out⟩))
set_option maxHeartbeats 4000000 in
theorem other_D (w : World) (A B R1 R2 : List UInt8) (hal : A.length = 32) (hbl : B.length = 32) (hr1 : R1.length = 32) (hr2 : R2.length = 32) (i : Int) (ap aq : Option Addr) (n cp cq : Nat) (p q : List (List UInt8))
    (HP : Hid (HsAt w (.slice ap n cp) p)) (HQ : Hid (HsAt w (.slice aq n cq) q)) (HK : Hid (KT w)) (hkp : 0 < w.heap.size) (L : Hid (∀ W, KT W → Calls Tryd.prog 12 #[] W fun e w' => e = .returned (.bool true) ∧ Below W.heap.size W w')) (hne : (!decide (R1 = R2)) = true)
    (c1 : Hid (∀ W, HsAt W (.slice ap n cp) p → KT W → Calls Tryd.prog 13 #[.agg (u8s A).toArray, .int .i64 i, .slice ap n cp] W fun e w' => e = .returned (.tuple #[.agg (u8s R1).toArray, .int .i64 0]) ∧ Below W.heap.size W w'))
    (c2 : Hid (∀ W, HsAt W (.slice aq n cq) q → KT W → Calls Tryd.prog 13 #[.agg (u8s B).toArray, .int .i64 i, .slice aq n cq] W fun e w' => e = .returned (.tuple #[.agg (u8s R2).toArray, .int .i64 0]) ∧ Below W.heap.size W w')) :
    Calls Tryd.prog 3 #[.agg (u8s A).toArray, .agg (u8s B).toArray, .int .i64 i, .slice ap n cp, .slice aq n cq] w fun e w' => e = .returned (.bool true) ∧ Below w.heap.size w w' := by
  go_enter Tryd.func3, Tryd.ntmps3
  go_wp2_with (first
    | (refine wpL_box rfl (.tmp 0) rfl (u8s A) rfl ?_; intro b1 w1 n1)
    | (refine wpL_box rfl (.tmp 1) rfl (u8s B) rfl ?_; intro b2 w2 n2
       have hB2 := hidp (n1.below.trans (n2.below.mono n1.below.size))
       have hV2 := hidp (show VarsAt w2 [(b1, A), (b2, B)] from fun x hx => by
         simp at hx; rcases hx with rfl | rfl
         · exact n2.old n1.arr
         · exact n2.arr)
       clear n1 n2)
    | (go_at_call 12; refine (L.out _ (HK.out.below hB2.out hkp)).mono ?_; rintro e w3 ⟨rfl, hb3⟩
       have hB3 := hidp (hB2.out.trans (hb3.mono hB2.out.size)); have hV3 := hidp (hV2.out.to hb3); clear hb3 hV2)
    | (refine wpL_get rfl (.tmp 5) rfl b1 A rfl hal (hV3.out (b1, A) (by simp)) ?_)
    | (go_at_call 13; refine (c1.out _ (HP.out.to hB3.out) (HK.out.below hB3.out hkp)).mono ?_; rintro e w4 ⟨rfl, hb4⟩; clear c1
       have hB4 := hidp (hB3.out.trans (hb4.mono hB3.out.size)); have hV4 := hidp (hV3.out.to hb4); clear hb4 hV3)
    | (refine wpL_newD 11 rfl rfl rfl ?_; intro b3 w5 n5)
    | (refine wpL_put rfl (.tmp 11) (.tmp 27) rfl b3 R1 rfl rfl hr1 (u8s z32) rfl n5.arr ?_; intro w6 ha6 hp6
       have hB6 := hidp (hB4.out.trans ((n5.put hp6).mono hB4.out.size)); have hV6 := hidp (hV4.out.push n5 hp6 ha6); clear n5 hp6 ha6 hV4)
    | (refine wpL_get rfl (.tmp 6) rfl b2 B rfl hbl (hV6.out (b2, B) (by simp)) ?_)
    | (go_at_call 13; refine (c2.out _ (HQ.out.to hB6.out) (HK.out.below hB6.out hkp)).mono ?_; rintro e w7 ⟨rfl, hb7⟩; clear c2
       have hB7 := hidp (hB6.out.trans (hb7.mono hB6.out.size)); have hV7 := hidp (hV6.out.to hb7); clear hb7 hV6)
    | (refine wpL_newD 13 rfl rfl rfl ?_; intro b4 w8 n8)
    | (refine wpL_put rfl (.tmp 13) (.tmp 34) rfl b4 R2 rfl rfl hr2 (u8s z32) rfl n8.arr ?_; intro w9 ha9 hp9
       have hB9 := hidp (hB7.out.trans ((n8.put hp9).mono hB7.out.size)); have hV9 := hidp (hV7.out.push n8 hp9 ha9); clear n8 hp9 ha9 hV7
       simp only [Act.put, List.setIfInBounds_toArray, List.set_cons_zero, List.set_cons_succ]
       refine wpL_asgn rfl (.tmp 35) rfl (.int .i64 0) rfl ?_
       simp only [Act.put, List.setIfInBounds_toArray, List.set_cons_zero, List.set_cons_succ]
       go_wp2_with (first
    | (refine wpL_get2 (.tmp 11) rfl rfl b3 R1 rfl hr1 (hV9.out (b3, R1) (by simp)) ?_)
    | (refine wpL_get2 (.tmp 13) rfl rfl b4 R2 rfl hr2 (hV9.out (b4, R2) (by simp)) ?_)
    | (refine wpL_neq2 (.tmp 50) (.tmp 51) _ rfl rfl R1 R2 rfl rfl hr1 hr2 true hne ?_
       simp only [Act.put, List.setIfInBounds_toArray, List.set_cons_zero, List.set_cons_succ]
       go_wp2
       go_ret
       exact ⟨rfl, hB9.out⟩)
         | fail)
       ))
set_option maxHeartbeats 4000000 in
theorem other_E (w : World) (A R1 : List UInt8) (hal : A.length = 32) (hr1 : R1.length = 32) (i : Int) (ap aq : Option Addr) (n cp cq : Nat) (p q : List (List UInt8))
    (HP : Hid (HsAt w (.slice ap n cp) p)) (HQ : Hid (HsAt w (.slice aq n cq) q)) (HK : Hid (KT w)) (hkp : 0 < w.heap.size) (L : Hid (∀ W, KT W → Calls Tryd.prog 12 #[] W fun e w' => e = .returned (.bool true) ∧ Below W.heap.size W w'))
    (c1 : Hid (∀ W, HsAt W (.slice ap n cp) p → KT W → Calls Tryd.prog 13 #[.agg (u8s A).toArray, .int .i64 i, .slice ap n cp] W fun e w' => e = .returned (.tuple #[.agg (u8s R1).toArray, .int .i64 0]) ∧ Below W.heap.size W w'))
    (c2 : Hid (∀ W, HsAt W (.slice aq n cq) q → KT W → Calls Tryd.prog 13 #[.agg (u8s A).toArray, .int .i64 i, .slice aq n cq] W fun e w' => e = .returned (.tuple #[.agg (u8s R1).toArray, .int .i64 0]) ∧ Below W.heap.size W w'))
    (c3 : Hid (∀ W, HsAt W (.slice ap n cp) p → HsAt W (.slice aq n cq) q → Calls Tryd.prog 14 #[.slice ap n cp, .slice aq n cq] W fun e w' => e = .returned (.bool true) ∧ Below W.heap.size W w')) :
    Calls Tryd.prog 3 #[.agg (u8s A).toArray, .agg (u8s A).toArray, .int .i64 i, .slice ap n cp, .slice aq n cq] w fun e w' => e = .returned (.bool true) ∧ Below w.heap.size w w' := by
  go_enter Tryd.func3, Tryd.ntmps3
  go_wp2_with (first
    | (refine wpL_box rfl (.tmp 0) rfl (u8s A) rfl ?_; intro b1 w1 n1)
    | (refine wpL_box rfl (.tmp 1) rfl (u8s A) rfl ?_; intro b2 w2 n2
       have hB2 := hidp (n1.below.trans (n2.below.mono n1.below.size))
       have hV2 := hidp (show VarsAt w2 [(b1, A), (b2, A)] from fun x hx => by
         simp at hx; rcases hx with rfl | rfl
         · exact n2.old n1.arr
         · exact n2.arr)
       clear n1 n2)
    | (go_at_call 12; refine (L.out _ (HK.out.below hB2.out hkp)).mono ?_; rintro e w3 ⟨rfl, hb3⟩
       have hB3 := hidp (hB2.out.trans (hb3.mono hB2.out.size)); have hV3 := hidp (hV2.out.to hb3); clear hb3 hV2)
    | (refine wpL_get rfl (.tmp 5) rfl b1 A rfl hal (hV3.out (b1, A) (by simp)) ?_)
    | (go_at_call 13; refine (c1.out _ (HP.out.to hB3.out) (HK.out.below hB3.out hkp)).mono ?_; rintro e w4 ⟨rfl, hb4⟩; clear c1
       have hB4 := hidp (hB3.out.trans (hb4.mono hB3.out.size)); have hV4 := hidp (hV3.out.to hb4); clear hb4 hV3)
    | (refine wpL_newD 11 rfl rfl rfl ?_; intro b3 w5 n5)
    | (refine wpL_put rfl (.tmp 11) (.tmp 27) rfl b3 R1 rfl rfl hr1 (u8s z32) rfl n5.arr ?_; intro w6 ha6 hp6
       have hB6 := hidp (hB4.out.trans ((n5.put hp6).mono hB4.out.size)); have hV6 := hidp (hV4.out.push n5 hp6 ha6); clear n5 hp6 ha6 hV4)
    | (refine wpL_get rfl (.tmp 6) rfl b2 A rfl hal (hV6.out (b2, A) (by simp)) ?_)
    | (go_at_call 13; refine (c2.out _ (HQ.out.to hB6.out) (HK.out.below hB6.out hkp)).mono ?_; rintro e w7 ⟨rfl, hb7⟩; clear c2
       have hB7 := hidp (hB6.out.trans (hb7.mono hB6.out.size)); have hV7 := hidp (hV6.out.to hb7); clear hb7 hV6)
    | (refine wpL_newD 13 rfl rfl rfl ?_; intro b4 w8 n8)
    | (refine wpL_put rfl (.tmp 13) (.tmp 34) rfl b4 R1 rfl rfl hr1 (u8s z32) rfl n8.arr ?_; intro w9 ha9 hp9
       have hB9 := hidp (hB7.out.trans ((n8.put hp9).mono hB7.out.size)); have hV9 := hidp (hV7.out.push n8 hp9 ha9); clear n8 hp9 ha9 hV7
       simp only [Act.put, List.setIfInBounds_toArray, List.set_cons_zero, List.set_cons_succ]
       refine wpL_asgn rfl (.tmp 35) rfl (.int .i64 0) rfl ?_
       simp only [Act.put, List.setIfInBounds_toArray, List.set_cons_zero, List.set_cons_succ]
       go_wp2_with (first
    | (refine wpL_get2 (.tmp 11) rfl rfl b3 R1 rfl hr1 (hV9.out (b3, R1) (by simp)) ?_)
    | (refine wpL_get2 (.tmp 13) rfl rfl b4 R1 rfl hr1 (hV9.out (b4, R1) (by simp)) ?_)
    | (refine wpL_neq2 (.tmp 50) (.tmp 51) _ rfl rfl R1 R1 rfl rfl hr1 hr1 false (by simp) ?_)
    | (refine wpL_get2 (.tmp 5) rfl rfl b1 A rfl hal (hV9.out (b1, A) (by simp)) ?_)
    | (refine wpL_get2 (.tmp 6) rfl rfl b2 A rfl hal (hV9.out (b2, A) (by simp)) ?_)
    | (refine wpL_eql2 (.tmp 55) (.tmp 56) _ rfl rfl A A rfl rfl hal hal true (by simp) ?_)
    | (go_at_call 14; refine (c3.out _ (HP.out.to hB9.out) (HQ.out.to hB9.out)).mono ?_; rintro e w10 ⟨rfl, hb10⟩; clear c3
       have hB10 := hidp (hB9.out.trans (hb10.mono hB9.out.size)); have hV10 := hidp (hV9.out.to hb10); clear hb10)
         | fail)
       go_ret
       exact ⟨rfl, hB10.out⟩))
end Go.Proofs.YtmbghbdhiihcnaaDoor
