/-
  Joined: TreC KyX0.
-/
import Derived.Test.YtbgooppmhgaicaaDoorUH
import Derived.OrdersIn
import Derived.Maps.OwnIn
import Derived.Test.YtbgooppmhgaicaaDoorUG
import Derived.OrdersHeld
namespace Go.Proofs.YtbgooppmhgaicaaDoor
set_option linter.unusedVariables false
set_option linter.unusedSimpArgs false
open Go.RowKit

section
variable {F : Fence} {n : Nat} {P : Program} {ops : Array Oper} {md : Region.Mode} {C : World → Prop} {Q : Exit → Act → World → Prop}
end
end Go.Proofs.YtbgooppmhgaicaaDoor

namespace Go.Proofs.YtbgooppmhgaicaaDoor
set_option linter.unusedVariables false
set_option linter.unusedSimpArgs false
open Go.RowKit

section
variable {F : Fence} {n : Nat} {P : Program} {ops : Array Oper} {md : Region.Mode} {C : World → Prop} {Q : Exit → Act → World → Prop}
end
end Go.Proofs.YtbgooppmhgaicaaDoor

namespace Go.Proofs.YtbgooppmhgaicaaDoor
set_option maxRecDepth 100000
set_option linter.unusedVariables false
set_option linter.unusedSimpArgs false
open Go.RowKit Go.Shelf
attribute [local go_sem] Oper.semAt_some
section
variable {P : Program} {w : World}
end
section
variable {F : Fence} {n : Nat} {ops : Array Oper} {rest : List Oper} {o : Oper} {a : Act} {w : World} {Q : Exit → Act → World → Prop}
end
/-- Between two rounds of Path. -/
def PI (w : World) (b3 b6 K : Nat) (hs : List (List UInt8)) (i : Nat) (pre : List LvX) (W : World) : Prop :=
  (Arr W b3 3 [.int .i64 ((i / 2 ^ (min pre.length K) : Nat) : Int)] ∧ ∃ v, Boxed W b6 52 v ∧ W.ownsRow w.heap.size 25 32 v (pathL (min pre.length K) hs i).length (cat32 (pathL (min pre.length K) hs i)) ∧ True) ∧ Below w.heap.size w W
theorem PI.own {w : World} {b3 b6 K i m : Nat} {hs : List (List UInt8)} (hm : w.heap.size ≤ m) : OwnFrom m (PI w b3 b6 K hs i) :=
  OwnFrom.and (Go.Own.from (OwnAnd (arr_own _ _ _) (holdsRow_own w.heap.size _ _ _ 32 (fun (pre : List LvX) => (pathL (min pre.length K) hs i).length) (fun pre => cat32 (pathL (min pre.length K) hs i)) (fun _ _ => True))) _) (ownFrom_below (Nat.le_refl _) hm)
end Go.Proofs.YtbgooppmhgaicaaDoor

namespace Go.Proofs.YtbgooppmhgaicaaDoor
set_option maxRecDepth 100000
set_option linter.unusedVariables false
set_option linter.unusedSimpArgs false
open Go.RowKit

theorem climb_last (leaf : List UInt8) (i : Nat) (p : List (List UInt8)) (m : Nat) (h : p.length = m + 1) : shaL ((wayL leaf i p).getD m []) = climbL leaf i p := by
  obtain ⟨q, x, rfl⟩ : ∃ q x, p = q ++ [x] := by
    have hne : p ≠ [] := by intro e; rw [e] at h; simp at h
    exact ⟨p.dropLast, p.getLast hne, (List.dropLast_concat_getLast hne).symm⟩
  have hq : q.length = m := by simpa using h
  rw [wayL_app, climbL_app, List.getD_eq_getElem?_getD, List.getElem?_append_right (by rw [wayL_len, hq]; exact Nat.le_refl _), wayL_len, hq, Nat.sub_self, climbL_cons]
  rfl
theorem way_no (w : World) (leaf : List UInt8) (hlf : leaf.length = 32) (i : Int) (hi : (Lit.int .i64 i).wf = true) (v : Value) (p : List (List UInt8)) (hH : HsAt w v p) (hno : 7 < p.length ∨ i < 0) :
    Calls Tryd.prog 50 #[.agg (u8s leaf).toArray, .int .i64 i, v] w fun e w' => e = .returned (.tuple #[.slice none 0 0, .bool false]) ∧ Below w.heap.size w w' := by
  obtain ⟨a, c, rfl⟩ := hH.form
  obtain ⟨n, hn⟩ : ∃ n, p.length = n := ⟨_, rfl⟩
  rw [hn] at hno ⊢
  clear hH hn
  by_cases h7 : 7 < n
  · have t7 : decide ((n : Int) > 7) = true := by simp; omega
    go_enter Tryd.func50, Tryd.ntmps50
    go_wp2_with (refine wpL_box rfl (.tmp 0) rfl (u8s leaf) rfl ?_; intro b1 w1 n1)
    go_ret2
    exact ⟨rfl, n1.below⟩
  · have t7 : decide ((n : Int) > 7) = false := by simp; omega
    have t0 : decide (i < 0) = true := by simpa using hno.resolve_left h7
    go_enter Tryd.func50, Tryd.ntmps50
    go_wp2_with (refine wpL_box rfl (.tmp 0) rfl (u8s leaf) rfl ?_; intro b1 w1 n1)
    go_ret2
    exact ⟨rfl, n1.below⟩
theorem rclimb_no (w : World) (leaf : List UInt8) (hlf : leaf.length = 32) (i : Int) (v : Value)
    (c1 : Hid (∀ W, Below w.heap.size w W → Calls Tryd.prog 50 #[.agg (u8s leaf).toArray, .int .i64 i, v] W fun e w' => ∃ a n c, e = .returned (.tuple #[.slice a n c, .bool false]) ∧ Below W.heap.size W w')) (a : Option Addr) (n c : Nat) (hv : v = .slice a n c) :
    Calls Tryd.prog 34 #[.agg (u8s leaf).toArray, .int .i64 i, v] w fun e w' => e = .returned (.tuple #[.agg (u8s z32).toArray, .int .i64 1]) ∧ Below w.heap.size w w' := by
  subst hv
  go_enter Tryd.func34, Tryd.ntmps34
  go_wp2_with (first
    | (refine wpL_box rfl (.tmp 0) rfl (u8s leaf) rfl ?_; intro b1 w1 n1)
    | (refine wpL_newD 6 rfl rfl rfl ?_; intro b2 w2 n2)
    | (refine wpL_get rfl (.tmp 3) rfl b1 leaf rfl hlf (n2.old n1.arr) ?_)
    | (go_at_call 50; refine (c1.out _ (n1.below.trans (n2.below.mono n1.below.size))).mono ?_; rintro e w3 ⟨a3, m3, k3, rfl, hb3⟩
       have hA3 := hidp (n2.arr.below hb3 n2.lt)
       have hB3 := hidp (n1.below.trans ((n2.below.mono n1.below.size).trans (hb3.mono (Nat.le_trans n1.below.size n2.below.size)))))
    | (refine wpL_zero rfl rfl ?_)
    | (refine wpL_put rfl (.tmp 6) (.tmp 19) rfl b2 z32 rfl rfl rfl (u8s z32) rfl hA3.out ?_; intro w9 ha9 hp9))
  refine bodyPost_ret (results_row_tmp (P := Tryd.prog) (p := 6) (u := 7) (ty := 25) Tryd.results34 _ _ b2 25 (u8s z32).toArray (0, 0) _ rfl ha9 hash_row rfl (hash_size rfl) _ rfl) rfl ?_
  exact ⟨rfl, hp9.below' hB3.out (Nat.le_trans n1.below.size n2.le)⟩
set_option maxHeartbeats 4000000 in
theorem rclimb_ok (w : World) (leaf : List UInt8) (hlf : leaf.length = 32) (i : Nat) (hi : i ≤ 9223372036854775807) (v : Value) (p : List (List UInt8)) (hH : HsAt w v p) (hp : p.length ≤ 7) (hz : i / 2 ^ p.length = 0) :
    Calls Tryd.prog 34 #[.agg (u8s leaf).toArray, .int .i64 (i : Int), v] w fun e w' => e = .returned (.tuple #[.agg (u8s (climbL leaf i p)).toArray, .int .i64 0]) ∧ Below w.heap.size w w' := by
  have c1 := hidp (fun W (h : Below w.heap.size w W) => way_ok W leaf hlf i hi v p (hH.to h) hp)
  rw [hz, show ((0 : Nat) == 0) = true from rfl] at c1
  obtain ⟨a, c, rfl⟩ := hH.form
  have hwl := wayL_len leaf i p
  cases hn : p.length with
  | zero =>
    obtain rfl : p = [] := List.eq_nil_of_length_eq_zero hn
    have hw0 : tv (wayL leaf i []) = [] := rfl
    rw [hw0] at c1
    clear hwl hH hp hz
    have hc0 := hidp (show climbL leaf i [] = leaf from rfl)
    go_enter Tryd.func34, Tryd.ntmps34
    go_wp2_with (first
      | (refine wpL_box rfl (.tmp 0) rfl (u8s leaf) rfl ?_; intro b1 w1 n1)
      | (refine wpL_newD 6 rfl rfl rfl ?_; intro b2 w2 n2)
      | (refine wpL_get rfl (.tmp 3) rfl b1 leaf rfl hlf (n2.old n1.arr) ?_)
      | (go_at_call 50; refine (c1.out _ (n1.below.trans (n2.below.mono n1.below.size))).mono ?_; rintro e w3 ⟨v3, rfl, ho3, hb3⟩
         obtain ⟨a3, k3, rfl, -⟩ := ho3.vals
         have hA3 := hidp (n2.arr.below hb3 n2.lt)
         have hA1 := hidp ((n2.old n1.arr).below hb3 (n2.old n1.arr).lt)
         have hB3 := hidp (n1.below.trans ((n2.below.mono n1.below.size).trans (hb3.mono (Nat.le_trans n1.below.size n2.below.size)))))
      | (refine wpL_get rfl (.tmp 3) rfl b1 leaf rfl hlf hA1.out ?_)
      | (refine wpL_put rfl (.tmp 6) (.tmp 23) rfl b2 leaf rfl rfl hlf (u8s z32) rfl hA3.out ?_; intro w9 ha9 hp9))
    refine bodyPost_ret (results_row_tmp (P := Tryd.prog) (p := 6) (u := 7) (ty := 25) Tryd.results34 _ _ b2 25 (u8s leaf).toArray (0, 0) _ rfl ha9 hash_row rfl (hash_size hlf) _ rfl) rfl ?_
    exact ⟨by rw [hc0.out]; rfl, hp9.below' hB3.out (Nat.le_trans n1.below.size n2.le)⟩
  | succ m =>
    have hlast := climb_last leaf i p m hn
    have hzl := climbL_len leaf i p hlf
    have hml : m < (tv (wayL leaf i p)).length := by rw [tv_len, hwl, hn]; omega
    have hgt : (tv (wayL leaf i p))[m] = .string (mkS ((wayL leaf i p).getD m [])) := by
      have hm2 : m < (wayL leaf i p).length := by rw [hwl, hn]; omega
      simp [tv, List.getD_eq_getElem?_getD, hm2]
    have htl : ((wayL leaf i p).getD m []).length ≤ 281474976710656 / 4 := by
      obtain ⟨q, x, rfl⟩ : ∃ q x, p = q ++ [x] := by
        have hne : p ≠ [] := by intro e; rw [e] at hn; simp at hn
        exact ⟨p.dropLast, p.getLast hne, (List.dropLast_concat_getLast hne).symm⟩
      have hq : q.length = m := by simpa using hn
      rw [wayL_app, List.getD_eq_getElem?_getD, List.getElem?_append_right (by rw [wayL_len, hq]; exact Nat.le_refl _), wayL_len, hq, Nat.sub_self]
      have hx := hH.1 x (by simp)
      have := climbL_len leaf i q hlf
      simp only [List.getElem?_cons_zero, Option.getD_some]
      unfold stepT
      split <;> rw [txtL_len _ _ (by assumption) (by assumption)] <;> omega
    obtain ⟨t, ht⟩ : ∃ t, (wayL leaf i p).getD m [] = t := ⟨_, rfl⟩
    rw [ht] at hlast hgt htl
    obtain ⟨z, hze⟩ : ∃ z, climbL leaf i p = z := ⟨_, rfl⟩
    rw [hze] at hlast hzl
    have HZ := hidp hze
    have cs := hidp (show ∀ W, Calls Tryd.prog 49 #[.string (mkS t)] W fun e w' => e = .returned (.agg (u8s z).toArray) ∧ Below W.heap.size W w' from fun W => by
      have := rsum_any W (mkS t) (by rw [mkS_size]; exact htl)
      rw [mkS_data, hlast] at this; exact this)
    obtain ⟨S, hS⟩ : ∃ S, mkS t = S := ⟨_, rfl⟩
    rw [hS] at cs hgt
    obtain ⟨tvs, htvs⟩ : ∃ l, tv (wayL leaf i p) = l := ⟨_, rfl⟩
    have hnl : tvs.length = m + 1 := by rw [← htvs, tv_len, hwl, hn]
    have hgt2 : ∀ h : m < tvs.length, tvs[m]'h = .string S := by subst htvs; intro h; exact hgt
    rw [htvs] at c1
    have HNL := hidp hnl; have HGT := hidp hgt2
    have hne0 : (((m + 1 : Nat) : Int) == 0) = false := by simp; omega
    have hsub : ((m + 1 : Nat) : Int) - 1 = (m : Int) := by omega
    have hm7 : m ≤ 7 := by omega
    have hwm : IntKind.i64.wrap (m : Int) = (m : Int) := by rw [IntKind.wrap_i64]; omega
    obtain ⟨N, hN⟩ : ∃ N, m + 1 = N := ⟨_, rfl⟩
    have HmN := hidp hN
    rw [hn, hN] at c1
    rw [hN] at HNL hne0 hsub ⊢
    clear hwl hH hp hz hn hlast hml hgt htl ht hze hS htvs hnl hgt2 hN
    have hmN : (m : Int) < (N : Int) := by have := HmN.out; omega
    go_enter Tryd.func34, Tryd.ntmps34
    go_wp2_with (first
      | (refine wpL_box rfl (.tmp 0) rfl (u8s leaf) rfl ?_; intro b1 w1 n1)
      | (refine wpL_newD 6 rfl rfl rfl ?_; intro b2 w2 n2)
      | (refine wpL_get rfl (.tmp 3) rfl b1 leaf rfl hlf (n2.old n1.arr) ?_)
      | (go_at_call 50; refine (c1.out _ (n1.below.trans (n2.below.mono n1.below.size))).mono ?_; rintro e w3 ⟨v3, rfl, ho3, hb3⟩
         obtain ⟨a3, k3, e3, hcv⟩ := ho3.vals
         obtain ⟨B3, off3, rfl, hcell⟩ := hcv m (by rw [HNL.out]; have := HmN.out; omega)
         rw [HGT.out] at hcell
         rw [HNL.out] at e3
         subst e3
         have hA3 := hidp (n2.arr.below hb3 n2.lt)
         have hB3 := hidp (n1.below.trans ((n2.below.mono n1.below.size).trans (hb3.mono (Nat.le_trans n1.below.size n2.below.size))))
         clear hcv ho3 c1)
      | (go_at_call 49; refine (cs.out _).mono ?_; rintro e w4 ⟨rfl, hb4⟩
         have hA4 := hidp (hA3.out.below hb4 hA3.out.lt)
         have hB4 := hidp (hB3.out.trans (hb4.mono hB3.out.size)))
      | (refine wpL_put rfl (.tmp 6) (.tmp 30) rfl b2 z rfl rfl hzl (u8s z32) rfl hA4.out ?_; intro w9 ha9 hp9))
    refine bodyPost_ret (results_row_tmp (P := Tryd.prog) (p := 6) (u := 7) (ty := 25) Tryd.results34 _ _ b2 25 (u8s z).toArray (0, 0) _ rfl ha9 hash_row rfl (hash_size hzl) _ rfl) rfl ?_
    exact ⟨by rw [HZ.out]; rfl, hp9.below' hB4.out (Nat.le_trans n1.below.size n2.le)⟩
/-- The document's Climb, of any leaf, place, and path. -/
theorem rclimb_any (w : World) (leaf : List UInt8) (hlf : leaf.length = 32) (i : Int) (hi : (Lit.int .i64 i).wf = true) (v : Value) (p : List (List UInt8)) (hH : HsAt w v p) :
    Calls Tryd.prog 34 #[.agg (u8s leaf).toArray, .int .i64 i, v] w fun e w' => e = .returned (.tuple #[.agg (u8s (climbV leaf i p)).toArray, .int .i64 ((climbE p.length i : Nat) : Int)]) ∧ Below w.heap.size w w' := by
  have hmax : i ≤ 9223372036854775807 := by
    have := hi; simp [Lit.wf, IntKind.min, IntKind.max, IntKind.signed, IntKind.bits] at this; omega
  by_cases ho : okC p.length i = true
  · have hv : climbV leaf i p = climbL leaf i.toNat p := if_pos ho
    have he : climbE p.length i = 0 := if_pos ho
    rw [hv, he]
    unfold okC at ho
    simp only [decide_eq_true_iff] at ho
    have := rclimb_ok w leaf hlf i.toNat (by omega) v p hH ho.1 (by
      have h2 := ho.2.2
      have : ((2 : Int) ^ p.length) = ((2 ^ p.length : Nat) : Int) := by simp
      exact Nat.div_eq_of_lt (by omega))
    rw [show ((i.toNat : Nat) : Int) = i from by omega] at this
    exact this
  · have ho : okC p.length i = false := by simpa using ho
    have hv : climbV leaf i p = z32 := if_neg (by simp [ho])
    have he : climbE p.length i = 1 := if_neg (by simp [ho])
    rw [hv, he]
    unfold okC at ho
    obtain ⟨a, c, hve⟩ := hH.form
    by_cases hno : 7 < p.length ∨ i < 0
    · exact rclimb_no w leaf hlf i v (hidp fun W h => (way_no W leaf hlf i hi v p (hH.to h) hno).mono fun e w' ⟨h1, h2⟩ => ⟨none, 0, 0, h1, h2⟩) a _ c hve
    · have h7 : p.length ≤ 7 := by omega
      have h0 : 0 ≤ i := by omega
      have hge : ¬ i < 2 ^ p.length := by
        intro hlt
        simp [h7, h0, hlt] at ho
      have hcast : ((2 : Int) ^ p.length) = ((2 ^ p.length : Nat) : Int) := by simp
      have hd : (i.toNat / 2 ^ p.length == 0) = false := by
        have : 0 < i.toNat / 2 ^ p.length := Nat.div_pos (by omega) (Nat.pow_pos (by omega))
        simp; omega
      refine rclimb_no w leaf hlf i v (hidp fun W h => ?_) a _ c hve
      have := way_ok W leaf hlf i.toNat (by omega) v p (hH.to h) h7
      rw [show ((i.toNat : Nat) : Int) = i from by omega, hd] at this
      refine this.mono ?_
      rintro e w' ⟨v', rfl, hov, hb⟩
      obtain ⟨a8, n8, c8, rfl⟩ := ownV_form hov
      exact ⟨a8, n8, c8, rfl, hb⟩
end Go.Proofs.YtbgooppmhgaicaaDoor

namespace Go.Proofs.YtbgooppmhgaicaaDoor
set_option linter.unusedVariables false
set_option linter.unusedSimpArgs false
open Go.RowKit

section
variable {P : Program} {ops : Array Oper} {md : Region.Mode} {S : World → Prop} {Q : Exit → Act → World → Prop} {sole : Nat → Bool}
variable {k : Nat} {o : Oper} {rest : List Oper} {a : Act} {w : World}
end
end Go.Proofs.YtbgooppmhgaicaaDoor

namespace Go.Proofs.YtbgooppmhgaicaaDoor
set_option maxRecDepth 100000
set_option linter.unusedVariables false
set_option linter.unusedSimpArgs false
open Go.RowKit

section
variable {ops : Array Oper} {rest : List Oper} {o : Oper} {a : Act} {w : World} {Q : Exit → Act → World → Prop}
theorem wpL_valg (hw : Region.wanted o (yielded ops a.tmps) = true) (v : Value) (hr : (execOp a.eval o).run Tryd.prog w = .ok (.value v) w) (h : wpList Tryd.prog ops Q rest (a.put o.dst v) w) : wpList Tryd.prog ops Q (o :: rest) a w :=
  wpList_step fun K hK => by
    rw [if_pos hw]
    unfold Oper.wp
    rw [hr]
    exact hK _ _ h
theorem wpL_neqg (hw : Region.wanted o (yielded ops a.tmps) = true) (x y : Operand) (u : TypeId) (ho : o.op = .binOp .neq 25 x y u) (l m : List UInt8) (hx : a.eval x = .agg (u8s l).toArray) (hy : a.eval y = .agg (u8s m).toArray) (hl : l.length = 32) (hm : m.length = 32) (b : Bool) (hb : (!decide (l = m)) = b)
    (h : wpList Tryd.prog ops Q rest (a.put o.dst (.bool b)) w) : wpList Tryd.prog ops Q (o :: rest) a w :=
  wpL_valg hw _ (by
    unfold execOp
    simp only [ho, hx, hy, Sem.run_bind, run_eqGuard_agg (P := Tryd.prog) _ _ _ _ _ _ _ guard_hash, neq_hash w l m hl hm, hb, Result.andThen_ok, Sem.run_pure]) h
end
end Go.Proofs.YtbgooppmhgaicaaDoor
