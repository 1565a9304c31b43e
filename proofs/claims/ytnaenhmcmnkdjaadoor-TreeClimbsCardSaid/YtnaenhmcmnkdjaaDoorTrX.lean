/-
  Tree: the walks of TreeRoots and TreeClimbs.
-/
import Derived.Test.YtnaenhmcmnkdjaaDoorTrW
namespace Go.Proofs.YtnaenhmcmnkdjaaDoor
set_option maxRecDepth 100000
set_option linter.unusedVariables false
set_option linter.unusedSimpArgs false
open Go.RowKit

section
variable {ops : Array Oper} {rest : List Oper} {o : Oper} {a : Act} {w : World} {Q : Exit → Act → World → Prop}
theorem wpL_getg (hw : Region.wanted o (yielded ops a.tmps) = true) (x : Operand) (ho : o.op = .load 24 x) (b : Nat) (l : List UInt8) (hx : a.eval x = .pointer (some ⟨b, 0, none⟩)) (hl : l.length = 32) (hg : Arr w b 24 (u8s l))
    (h : wpList Tryd.prog ops Q rest (a.put o.dst (.agg (u8s l).toArray)) w) : wpList Tryd.prog ops Q (o :: rest) a w :=
  wpList_load_row_g hw 24 x ho b hx 24 _ (0, 0) _ hg hash_row rfl (hash_size hl) h
theorem wpL_valg (hw : Region.wanted o (yielded ops a.tmps) = true) (v : Value) (hr : (execOp a.eval o).run Tryd.prog w = .ok (.value v) w) (h : wpList Tryd.prog ops Q rest (a.put o.dst v) w) : wpList Tryd.prog ops Q (o :: rest) a w :=
  wpList_step fun K hK => by
    rw [if_pos hw]
    unfold Oper.wp
    rw [hr]
    exact hK _ _ h
theorem wpL_eqlg (hw : Region.wanted o (yielded ops a.tmps) = true) (x y : Operand) (u : TypeId) (ho : o.op = .binOp .eql 24 x y u) (l m : List UInt8) (hx : a.eval x = .agg (u8s l).toArray) (hy : a.eval y = .agg (u8s m).toArray) (hl : l.length = 32) (hm : m.length = 32) (b : Bool) (hb : decide (l = m) = b)
    (h : wpList Tryd.prog ops Q rest (a.put o.dst (.bool b)) w) : wpList Tryd.prog ops Q (o :: rest) a w :=
  wpL_valg hw _ (by
    unfold execOp
    simp only [ho, hx, hy, Sem.run_bind, run_eqGuard_agg (P := Tryd.prog) _ _ _ _ _ _ _ guard_hash, eql_hash w l m hl hm, hb, Result.andThen_ok, Sem.run_pure]) h
theorem wpL_neqg (hw : Region.wanted o (yielded ops a.tmps) = true) (x y : Operand) (u : TypeId) (ho : o.op = .binOp .neq 24 x y u) (l m : List UInt8) (hx : a.eval x = .agg (u8s l).toArray) (hy : a.eval y = .agg (u8s m).toArray) (hl : l.length = 32) (hm : m.length = 32) (b : Bool) (hb : (!decide (l = m)) = b)
    (h : wpList Tryd.prog ops Q rest (a.put o.dst (.bool b)) w) : wpList Tryd.prog ops Q (o :: rest) a w :=
  wpL_valg hw _ (by
    unfold execOp
    simp only [ho, hx, hy, Sem.run_bind, run_eqGuard_agg (P := Tryd.prog) _ _ _ _ _ _ _ guard_hash, neq_hash w l m hl hm, hb, Result.andThen_ok, Sem.run_pure]) h
end
set_option maxHeartbeats 8000000 in
theorem walk_treeRoots (w : World) (v : Value) (hs : List (List UInt8)) (hH : HsAt w v hs) (hn : hs.length ≤ 4611686018427387904) (i : Int) (hi : (Lit.int .i64 i).wf = true) (hK : KT w) :
    Calls Tryd.prog 3 #[v, .int .i64 i] w fun e w' => e = .returned (.bool true) ∧ Below w.heap.size w w' := by
  have L := hidp (fun W (h : KT W) => lives3_any W h)
  have HK := hidp hK
  have hkp := hK.pos
  have c1 := hidp (fun W (h : HsAt W v hs) (hk : KT W) => root_any W v hs h hn hk)
  have c2 := hidp (fun W (h : HsAt W v hs) => rroot_any W v hs h hn)
  have c3 := hidp (fun W (h : HsAt W v hs) (hk : KT W) => path_any W v hs i hi h hn hk)
  have c4 := hidp (fun W (h : HsAt W v hs) => rpath_any W v hs i hi h hn)
  have hrl := rootV_len hs hH.1
  have hpn : (pathV hs i).length ≤ 4611686018427387904 := by
    unfold pathV; split
    · rename_i ho
      unfold okP at ho
      simp only [Bool.and_eq_true] at ho
      rw [refP_len]; have := (fit_hi ho.1).2; omega
    · simp
  obtain ⟨R, hR⟩ : ∃ R, rootV hs = R := ⟨_, rfl⟩
  obtain ⟨E1, hE1⟩ : ∃ n, rootE hs.length = n := ⟨_, rfl⟩
  obtain ⟨P, hP⟩ : ∃ n, pathV hs i = n := ⟨_, rfl⟩
  obtain ⟨E2, hE2⟩ : ∃ n, pathE hs.length i = n := ⟨_, rfl⟩
  rw [hR, hE1] at c1 c2
  rw [hP, hE2] at c3 c4
  rw [hR] at hrl
  rw [hP] at hpn
  have cs := hidp (show ∀ W va vb, HsAt W va P → HsAt W vb P → Calls Tryd.prog 21 #[va, vb] W fun e w' => e = .returned (.bool true) ∧ Below W.heap.size W w' from fun W va vb ha hb => by
    have := same_any W va vb P P ha hb hpn hpn; rw [decide_eq_true rfl] at this; exact this)
  obtain ⟨a, c, hve⟩ := hH.form
  obtain ⟨n, hnn⟩ : ∃ n, hs.length = n := ⟨_, rfl⟩
  rw [hnn] at hve
  subst hve
  have HH := hidp hH
  clear hR hE1 hP hE2 hH hK hnn hn hpn
  go_enter Tryd.func3, Tryd.ntmps3
  go_wp2_with (first
    | (go_at_call 16; refine (c1.out _ HH.out HK.out).mono ?_; rintro e w1 ⟨rfl, hb1⟩
       have hB1 := hidp hb1; clear hb1)
    | (refine wpL_newD 5 rfl rfl rfl ?_; intro b1 w2 n2)
    | (refine wpL_put rfl (.tmp 5) (.tmp 16) rfl b1 R rfl rfl hrl (u8s z32) rfl n2.arr ?_; intro w3 ha3 hp3
       have hB3 := hidp (hB1.out.trans ((n2.put hp3).mono hB1.out.size)); have hA3 := hidp ha3; clear n2 hp3 ha3)
    | (go_at_call 17; refine (c2.out _ (HH.out.to hB3.out)).mono ?_; rintro e w4 ⟨rfl, hb4⟩
       have hB4 := hidp (hB3.out.trans (hb4.mono hB3.out.size)); have hA4 := hidp (hA3.out.below hb4 hA3.out.lt); clear hb4)
    | (refine wpL_newD 7 rfl rfl rfl ?_; intro b2 w5 n5)
    | (refine wpL_put rfl (.tmp 7) (.tmp 21) rfl b2 R rfl rfl hrl (u8s z32) rfl n5.arr ?_; intro w6 ha6 hp6
       have hB6 := hidp (hB4.out.trans ((n5.put hp6).mono hB4.out.size)); have hA6 := hidp (hA4.out.below (n5.put hp6) hA4.out.lt); have hA6' := hidp ha6; clear n5 hp6 ha6)
    | (go_at_call 18; refine (c3.out _ (HH.out.to hB6.out) (HK.out.below hB6.out hkp)).mono ?_; rintro e w7 ⟨v7, rfl, ho7, hb7⟩
       obtain ⟨pa, pc, rfl⟩ := ho7.hs.form
       have hB7 := hidp (hB6.out.trans (hb7.mono hB6.out.size)); have hA7 := hidp (hA6.out.below hb7 hA6.out.lt); have hA7' := hidp (hA6'.out.below hb7 hA6'.out.lt); have hP7 := hidp ho7.hs; clear hb7 ho7)
    | (go_at_call 19; refine (c4.out _ (HH.out.to hB7.out)).mono ?_; rintro e w8 ⟨v8, rfl, ho8, hb8⟩
       obtain ⟨qa, qc, rfl⟩ := ho8.hs.form
       have hB8 := hidp (hB7.out.trans (hb8.mono hB7.out.size)); have hA8 := hidp (hA7.out.below hb8 hA7.out.lt); have hA8' := hidp (hA7'.out.below hb8 hA7'.out.lt); have hP8 := hidp (hP7.out.to hb8); have hQ8 := hidp ho8.hs; clear hb8 ho8)
    | (go_at_call 20; refine (L.out _ (HK.out.below hB8.out hkp)).mono ?_; rintro e w9 ⟨rfl, hb9⟩
       have hB9 := hidp (hB8.out.trans (hb9.mono hB8.out.size)); have hA9 := hidp (hA8.out.below hb9 hA8.out.lt); have hA9' := hidp (hA8'.out.below hb9 hA8'.out.lt); have hP9 := hidp (hP8.out.to hb9); have hQ9 := hidp (hQ8.out.to hb9); clear hb9)
    | (refine wpL_getg rfl (.tmp 5) rfl b1 R rfl hrl hA9.out ?_)
    | (refine wpL_getg rfl (.tmp 7) rfl b2 R rfl hrl hA9'.out ?_)
    | (refine wpL_eqlg rfl (.tmp 37) (.tmp 38) _ rfl R R rfl rfl hrl hrl true (decide_eq_true rfl) ?_)
    | (go_at_call 21; refine (cs.out _ _ _ hP9.out hQ9.out).mono ?_; rintro e w10 ⟨rfl, hb10⟩
       have hB10 := hidp (hB9.out.trans (hb10.mono hB9.out.size)); clear hb10))
  go_ret
  exact ⟨rfl, hB10.out⟩
end Go.Proofs.YtnaenhmcmnkdjaaDoor
