/-
  'palaver/palavertop.TopGranted' returns true for every input, and leaves what was there as it was. Condition: the package-level table palaver/sha.constants starts as the program's text lays it (tied by the card); none beyond that and the row's own.
-/
import Derived.Test.YtgfdhgnkanekhaaDoorOctQ
import Derived.Test.YtgfdhgnkanekhaaDoorOctP
import Derived.Test.YtgfdhgnkanekhaaDoorOctL
import Derived.Test.YtgfdhgnkanekhaaDoorShaW
import Derived.Test.YtgfdhgnkanekhaaDoorGrX
import Derived.Test.YtgfdhgnkanekhaaDoorFrmH
import Derived.Lib.SmallJoins
import Derived.Deep.DeepWitnessRowRef

namespace Go.Proofs.YtgfdhgnkanekhaaDoor
set_option linter.unusedVariables false
set_option linter.unusedSimpArgs false
set_option maxRecDepth 100000
open Go.RowKit

theorem begins_any (w : World) : Calls Tryd.prog 42 #[] w fun e w' => e = .returned (.bool true) ∧ Below w.heap.size w w' := by
  have c1 : Hid (∀ w, Calls Tryd.prog 74 #[.int .u64 300] w fun e w' => e = .returned (.tuple #[.string ⟨#[172, 2]⟩, .int .i64 0]) ∧ Below w.heap.size w w') := fun w => by
    have := num_any w 300 (by omega); rw [numS_yes (by omega), numE_yes (by omega), e300] at this; exact this
  go_enter Tryd.func42, Tryd.ntmps42
  go_wp2_with fail
  refine (c1.out _).mono ?_
  rintro e w1 ⟨rfl, hb1⟩
  go_wp2_with fail
  go_ret
  exact ⟨rfl, hb1⟩
theorem al_enc (ss : List ByteArray) (h : okL ss) : al (mkS (encL ss)) = (ss, 0) := by
  have hg := gl_back ss h []
  rw [List.append_nil] at hg
  unfold al
  rw [hg]
  simp [mkS_size]
theorem encL_inj {ss tt : List ByteArray} (h : okL ss) (h' : okL tt) (e : encL ss = encL tt) : ss = tt := by
  have h1 := al_enc ss h
  have h2 := al_enc tt h'
  rw [e, h2] at h1
  exact (congrArg Prod.fst h1).symm
theorem eq_rowT (xs : List UInt8) (hl : xs.length = 32) (A : List Value) (hA : u8s xs = A) : ∀ W, (Op.equalIn 10000 26 (.agg A.toArray) (.agg A.toArray)).run Tryd.prog W = .ok true W := by
  intro W; rw [← hA, eqin_hash W _ _ hl hl, decide_eq_true rfl]
def smK (ss tt : List ByteArray) (k : Nat) : Bool := decide (ss.length = tt.length ∧ ss.take k = tt.take k)
theorem smK_succ (ss tt : List ByteArray) (k : Nat) (h : k < ss.length) (h' : k < tt.length) (hk : smK ss tt k = true) : smK ss tt (k + 1) = decide (ss[k] = tt[k]) := by
  unfold smK at *
  rw [decide_eq_true_iff] at hk
  rw [Bool.eq_iff_iff, decide_eq_true_iff, decide_eq_true_iff, List.take_add_one, List.take_add_one, List.getElem?_eq_getElem h, List.getElem?_eq_getElem h', hk.2]
  simp only [Option.toList, hk.1, true_and]
  constructor
  · intro e; exact (List.append_inj_right' e rfl) |> List.cons.inj |> And.left
  · intro e; rw [e]
theorem smK_no (ss tt : List ByteArray) (k : Nat) (hk : smK ss tt k = false) : smK ss tt (k + 1) = false := by
  unfold smK at *
  rw [decide_eq_false_iff_not] at *
  rintro ⟨h1, h2⟩
  refine hk ⟨h1, ?_⟩
  have := congrArg (List.take k) h2
  simpa [List.take_take, Nat.min_eq_left] using this
theorem smK_zero (ss tt : List ByteArray) : smK ss tt 0 = decide (ss.length = tt.length) := by unfold smK; simp
theorem smK_all (ss tt : List ByteArray) : smK ss tt ss.length = decide (ss = tt) := by
  unfold smK
  rw [Bool.eq_iff_iff, decide_eq_true_iff, decide_eq_true_iff]
  constructor
  · rintro ⟨h1, h2⟩; rw [List.take_of_length_le (Nat.le_refl _), List.take_of_length_le (by omega)] at h2; exact h2
  · rintro rfl; exact ⟨rfl, rfl⟩
attribute [irreducible] smK
theorem smK_len {ss tt : List ByteArray} {k : Nat} (h : smK ss tt k = true) : ss.length = tt.length := by unfold smK at h; exact (decide_eq_true_iff.1 h).1

end Go.Proofs.YtgfdhgnkanekhaaDoor

namespace Go.Proofs.YtgfdhgnkanekhaaDoor
set_option maxRecDepth 100000
set_option linter.unusedVariables false
set_option linter.unusedSimpArgs false
open Go.RowKit Rw

theorem fill_step (place : Nat → Option (Nat × Nat)) (cs : List Value) (i off size : Nat) (v : Value) (rest : List (Nat × Value)) (hp : place i = some (off, size)) (hs : v.cells.size = size) (hl : off + size ≤ cs.length) :
    Instr.fill place cs.toArray ((i, v) :: rest) = Instr.fill place (cs.take off ++ v.cells.toList ++ cs.drop (off + size)).toArray rest := by
  conv => lhs; unfold Instr.fill
  rw [hp]
  dsimp only
  rw [if_neg (by simp [hs]; omega)]
  congr 1
  have e := foldSetR v.cells.toList 0 off cs.toArray (by simp [hs]; omega)
  rw [← Array.toList_inj, ← Array.foldl_toList]
  simp only [Nat.add_zero, Array.length_toList, hs] at e
  simpa using e
theorem places_gr (w : World) : ∃ fs, Tryd.prog.underlying 55 = some (.struct fs) ∧ ((fs.mapM fun f => do pure (f.offset, ← sizeOf f.type)) : Sem (Array (Nat × Nat))).run Tryd.prog w = .ok #[(0, 1), (1, 1), (2, 1), (3, 1), (4, 32)] w :=
  ⟨_, Tryd.underlying55, by kernel_rfl⟩
theorem run_bldG (w : World) (g : Gr) (hok : g.ok) : (Instr.build 55 #[(0, .int .i64 g.s), (1, .int .i64 g.f), (2, .int .i64 g.t), (3, .int .i64 g.h), (4, .agg (u8s g.r).toArray)]).run Tryd.prog w = .ok (.agg g.row.toArray) w := by
  obtain ⟨fs, hu, hp⟩ := places_gr w
  have hl : (u8s g.r).length = 32 := by rw [u8s_length]; exact hok
  have hz : zG.length = 36 := rfl
  have hf : Instr.fill ((#[(0, 1), (1, 1), (2, 1), (3, 1), (4, 32)] : Array (Nat × Nat))[·]?) zG.toArray [(0, .int .i64 g.s), (1, .int .i64 g.f), (2, .int .i64 g.t), (3, .int .i64 g.h), (4, .agg (u8s g.r).toArray)] = some g.row.toArray := by
    rw [fill_step _ _ 0 0 1 _ _ rfl rfl (by omega), fill_step _ _ 1 1 1 _ _ rfl rfl (by simp [Value.cells, hz]), fill_step _ _ 2 2 1 _ _ rfl rfl (by simp [Value.cells, hz]), fill_step _ _ 3 3 1 _ _ rfl rfl (by simp [Value.cells, hz]), fill_step _ _ 4 4 32 _ _ rfl (by simpa [Value.cells] using hl) (by simp [Value.cells, hz])]
    unfold Instr.fill
    congr 1
    have e : zG = .int .i64 0 :: .int .i64 0 :: .int .i64 0 :: .int .i64 0 :: u8s z32 := rfl
    rw [e]
    simp [Value.cells, Gr.row, show (u8s z32).drop 32 = [] from rfl]
  unfold Instr.build
  simp only [Sem.run_bind, tyG.zero w, Result.andThen_ok, run_underlying hu, hp, Value.cells, hf]
  rfl
section
variable {ops : Array Oper} {rest : List Oper} {o : Oper} {a : Act} {w : World} {Q : Exit → Act → World → Prop}
theorem wpL_bldG (hgd : o.guard = none) (x0 x1 x2 x3 x4 : Operand) (ho : o.op = .build 55 #[(0, x0), (1, x1), (2, x2), (3, x3), (4, x4)]) (g : Gr) (h0 : a.eval x0 = .int .i64 g.s) (h1 : a.eval x1 = .int .i64 g.f) (h2 : a.eval x2 = .int .i64 g.t) (h3 : a.eval x3 = .int .i64 g.h) (h4 : a.eval x4 = .agg (u8s g.r).toArray) (hok : g.ok)
    (h : wpList Tryd.prog ops Q rest (a.put o.dst (.agg g.row.toArray)) w) : wpList Tryd.prog ops Q (o :: rest) a w := by
  refine wpList_plain hgd fun K hK => ?_
  have := hK _ _ h
  unfold Oper.wp execOp
  simp only [ho, List.map_toArray, List.map_cons, List.map_nil, h0, h1, h2, h3, h4, Sem.run_bind, run_bldG w g hok, Result.andThen_ok]
  exact this
end
theorem okB_nil : okB [] = true := rfl
theorem okB_one {g : Gr} (h : vG g = true) : okB [g] = true := by
  unfold okB okTo
  simp [okAt, h]
theorem ad_nil (g : Gr) : adE [] g = (if vG g = true then 0 else 2) ∧ (vG g = true → adL [] g = [g]) := by
  have hp : ¬ 0 ≤ posP (fun x => mt x g) [] := by unfold posP; simp
  have h256 : ¬ ([] : List Gr).length = 256 := by simp
  refine ⟨?_, fun h => ?_⟩
  · unfold adE
    rw [okB_nil, if_pos rfl, if_neg h256, if_neg hp]
  · unfold adL
    rw [okB_nil, if_pos rfl, if_pos h, if_neg h256, if_neg hp]; rfl
theorem fi_one {g : Gr} (h : vG g = true) (s t : Int) : fiE [g] s t = (if fdG s t g = true then 0 else 3) ∧ (fdG s t g = true → fiV [g] s t = g) := by
  have e : [g].findIdx (fdG s t) = if fdG s t g = true then 0 else 1 := by
    rw [List.findIdx_cons]; cases fdG s t g <;> simp
  refine ⟨?_, fun hd => ?_⟩
  · unfold fiE
    rw [okB_one h, if_pos rfl, e]
    split <;> simp
  · unfold fiV
    rw [okB_one h, if_pos rfl, e, if_pos hd]; rfl

set_option maxHeartbeats 16000000 in
theorem walk_topGranted (w : World) (S : ByteArray) (H N : Int) (hS : S.size ≤ 140737488351232) (hH : (Lit.int .i64 H).wf = true) (hN : (Lit.int .i64 N).wf = true) (sv : Int) (hsv : (Lit.int .i64 sv).wf = true) (f : Int) (hf : (Lit.int .i64 f).wf = true) (t : Int) (ht : (Lit.int .i64 t).wf = true) (m : Int) (hm : (Lit.int .i64 m).wf = true) (tx : ByteArray) (htx : tx.size ≤ 140737488351232) (hK : KT w) :
    Calls Tryd.prog 10 #[.agg #[.string S, .int .i64 H, .int .i64 N], .int .i64 sv, .int .i64 f, .int .i64 t, .int .i64 m, .string tx] w fun e w' => e = .returned (.bool true) ∧ Below w.heap.size w w' := by
  have cb := hidp (fun W => begins_any W)
  have HK := hidp hK; have hkp := hK.pos; clear hK
  have hRl := hidp (keyR_len S H N)
  have cr := hidp (fun W (k : KT W) => kroot_any W S H N k)
  obtain ⟨R, hR⟩ : ∃ R, keyR S H N = R := ⟨_, rfl⟩
  rw [hR] at hRl cr
  have key : ∀ e2 : Bool, decide (H > 3) = e2 → (e2 = true → ∃ b, decide (H ≤ 7) = b) → True := fun _ _ _ => trivial
  clear key
  have hW3 : H ≤ 3 ∨ (3 < H ∧ H ≤ 7) ∨ 7 < H := by omega
  rcases hW3 with h3 | h3 | h3
  · have e2 : decide (H > 3) = false := by simp; omega
    have n2 : ¬ 3 < H := by omega
    by_cases h16 : 16384 < tx.size
    · have e4 : decide ((tx.size : Int) > 16384) = true := by simp; omega
      clear hR
      go_enter Tryd.func10, Tryd.ntmps10
      go_wp2_with (first | (refine wpL_boxK rfl (.tmp 0) rfl [.string S, .int .i64 H, .int .i64 N] rfl ?_; intro p6 w1 n1; have HB1 := hidp n1.below; have hg_p6 := hidp n1.le; have HA1 := hidp n1.arr; clear n1))
      refine (cb.out _).mono ?_
      rintro e w2 ⟨rfl, hb⟩
      have HB2 := hidp (HB1.out.trans (hb.mono HB1.out.size))
      have HA2 := hidp (HA1.out.below hb HA1.out.lt)
      clear hb HB1 HA1
      obtain ⟨x0, x1, x2, -⟩ := arr3k HA2.out
      go_wp2_with fail
      go_ret
      exact ⟨rfl, HB2.out⟩
    · have e4 : decide ((tx.size : Int) > 16384) = false := by simp; omega
      have n4 : ¬ 16384 < tx.size := h16
      have cs := hidp (fun W (k : KT W) => ksign_any W S H N tx (by omega) k)
      have hgok : Gr.ok ⟨sv, f, t, H, R⟩ := hRl.out
      obtain ⟨ha1, ha2⟩ := ad_nil ⟨sv, f, t, H, R⟩
      have ca := hidp (show ∀ W, Calls Tryd.prog 29 #[.slice none 0 0, .agg (Gr.row ⟨sv, f, t, H, R⟩).toArray] W fun e w' => ∃ v', e = .returned (.tuple #[v', .int .i64 (adE [] ⟨sv, f, t, H, R⟩)]) ∧ OwnR 55 36 w' W.heap.size v' (rows (adL [] ⟨sv, f, t, H, R⟩)) ∧ Below W.heap.size W w' from fun W => badd_any W (.slice none 0 0) [] ⟨RsAt.nil W, fun _ h => by cases h⟩ ⟨sv, f, t, H, R⟩ hgok)
      obtain ⟨g, hge⟩ : ∃ g : Gr, (⟨sv, f, t, H, R⟩ : Gr) = g := ⟨_, rfl⟩
      have hgp := hidp (show g.s = sv ∧ g.f = f ∧ g.t = t ∧ g.h = H ∧ g.r = R from by rw [← hge]; exact ⟨rfl, rfl, rfl, rfl, rfl⟩)
      rw [hge] at hgok ha1 ha2 ca
      clear hge
      cases hok : kyOk S H N with
      | false =>
        have hE : kyE S H N = 2 := by unfold kyE; rw [hok]; rfl
        obtain ⟨g1, g2, g3⟩ := sg_no tx.data.toList hok
        rw [hE] at cr
        rw [g1, g2, g3] at cs
        obtain ⟨E3, hE3⟩ : ∃ E, adE [] g = E := ⟨_, rfl⟩
        rw [hE3] at ca
        clear hE g1 g2 g3 hok hE3 ha1 ha2 hR
        go_enter Tryd.func10, Tryd.ntmps10
        go_wp2_with (first | (refine wpL_boxK rfl (.tmp 0) rfl [.string S, .int .i64 H, .int .i64 N] rfl ?_; intro p6 w1 n1; have HB1 := hidp n1.below; have hg_p6 := hidp n1.le; have HA1 := hidp n1.arr; clear n1))
        refine (cb.out _).mono ?_
        rintro e w2 ⟨rfl, hb⟩
        have HB2 := hidp (HB1.out.trans (hb.mono HB1.out.size))
        have HA2 := hidp (HA1.out.below hb HA1.out.lt)
        clear hb HB1 HA1
        obtain ⟨x0, x1, x2, -⟩ := arr3k HA2.out
        go_wp2_with fail
        clear x0 x1 x2
        refine (cr.out _ (HK.out.below HB2.out hkp)).mono ?_
        rintro e w3 ⟨rfl, hb⟩
        have HB3 := hidp (HB2.out.trans (hb.mono HB2.out.size))
        have HA3 := hidp (HA2.out.below hb HA2.out.lt)
        clear hb HB2 HA2
        go_wp2_with (first | (refine wpL_new rfl rfl ?_; intro p13 w4 n4; have HB4 := hidp (HB3.out.trans (n4.below.mono HB3.out.size)); have hg_p13 := hidp (Nat.le_trans HB3.out.size n4.le); have HA4 := hidp (n4.old HA3.out); have hl_HA_p13 := hidp (show p6 < p13 from by have := n4.at_; have := HA3.out.lt; omega); have H134 := hidp n4.arr; clear n4 HA3 HB3) | (refine wpL_put rfl (.tmp 13) (.tmp 39) rfl p13 R rfl rfl hRl.out _ rfl H134.out ?_; intro w5 ha hp; have HB5 := hidp (hp.below' HB4.out hg_p13.out); have HA5 := hidp (hp.arr (by have := hl_HA_p13.out; omega) HA4.out); have H135 := hidp ha; clear ha hp HB4 HA4 H134) | (refine wpL_getK rfl (.tmp 6) rfl p6 _ _ _ rfl HA5.out ?_))
        refine (cs.out _ (HK.out.below HB5.out hkp)).mono ?_
        rintro e w6 ⟨rfl, hb⟩
        have HB6 := hidp (HB5.out.trans (hb.mono HB5.out.size))
        have HA6 := hidp (HA5.out.below hb HA5.out.lt)
        have H136 := hidp (H135.out.below hb H135.out.lt)
        clear hb HB5 HA5 H135
        go_wp2_with (first | (refine wpL_newK rfl rfl ?_; intro p15 w7 n7; have HB7 := hidp (HB6.out.trans (n7.below.mono HB6.out.size)); have hg_p15 := hidp (Nat.le_trans HB6.out.size n7.le); have HA7 := hidp (n7.old HA6.out); have hl_HA_p15 := hidp (show p6 < p15 from by have := n7.at_; have := HA6.out.lt; omega); have H137 := hidp (n7.old H136.out); have hl_H13_p15 := hidp (show p13 < p15 from by have := n7.at_; have := H136.out.lt; omega); have H157 := hidp n7.arr; clear n7 HA6 H136 HB6) | (refine wpL_putK rfl (.tmp 15) (.tmp 45) rfl p15 (.string ⟨#[]⟩) (.int .i64 0) (.int .i64 0) rfl rfl (by simp [Value.oneCell']) _ _ _ H157.out ?_; intro w8 ha hp; have HB8 := hidp (hp.below' HB7.out hg_p15.out); have HA8 := hidp (hp.arr (by have := hl_HA_p15.out; omega) HA7.out); have H138 := hidp (hp.arr (by have := hl_H13_p15.out; omega) H137.out); have H158 := hidp ha; clear ha hp HB7 HA7 H137 H157; obtain ⟨x0, x1, x2, -⟩ := arr3k HA8.out) | (refine wpL_get rfl (.tmp 13) rfl p13 R rfl hRl.out H138.out ?_) | (refine wpL_bldG rfl (.tmp 49) (.tmp 50) (.tmp 51) (.tmp 53) (.tmp 54) rfl g (by rw [hgp.out.1]; rfl) (by rw [hgp.out.2.1]; rfl) (by rw [hgp.out.2.2.1]; rfl) (by rw [hgp.out.2.2.2.1]; rfl) (by rw [hgp.out.2.2.2.2]; rfl) hgok ?_))
        clear x0 x1 x2
        refine (ca.out _).mono ?_
        rintro e w9 ⟨v9, rfl, ho, hb⟩
        have HB9 := hidp (HB8.out.trans (hb.mono HB8.out.size))
        have HA9 := hidp (HA8.out.below hb HA8.out.lt)
        have H139 := hidp (H138.out.below hb H138.out.lt)
        have H159 := hidp (H158.out.below hb H158.out.lt)
        have HO9 := hidp (ho.base (C := w.heap.size) HB8.out.size)
        clear ho
        obtain ⟨av, cv, rfl⟩ := HO9.out.rs.form
        clear hb HB8 HA8 H138 H158
        go_wp2_with fail
        go_ret
        exact ⟨rfl, HB9.out⟩
      | true =>
        have hE : kyE S H N = 0 := by unfold kyE; rw [hok]; rfl
        rw [hE] at cr
        obtain ⟨⟨s1, s2⟩, ⟨q1, q2⟩, q3, q4⟩ := kyOk_parts hok
        by_cases hn : N = ((2 ^ H.toNat : Nat) : Int)
        · obtain ⟨g1, g2, g3⟩ := sg_over tx.data.toList hok hn
          rw [g1, g2, g3] at cs
          obtain ⟨E3, hE3⟩ : ∃ E, adE [] g = E := ⟨_, rfl⟩
          rw [hE3] at ca
          clear hE g1 g2 g3 hok hE3 ha1 ha2 hR hn q4
          go_enter Tryd.func10, Tryd.ntmps10
          go_wp2_with (first | (refine wpL_boxK rfl (.tmp 0) rfl [.string S, .int .i64 H, .int .i64 N] rfl ?_; intro p6 w1 n1; have HB1 := hidp n1.below; have hg_p6 := hidp n1.le; have HA1 := hidp n1.arr; clear n1))
          refine (cb.out _).mono ?_
          rintro e w2 ⟨rfl, hb⟩
          have HB2 := hidp (HB1.out.trans (hb.mono HB1.out.size))
          have HA2 := hidp (HA1.out.below hb HA1.out.lt)
          clear hb HB1 HA1
          obtain ⟨x0, x1, x2, -⟩ := arr3k HA2.out
          go_wp2_with fail
          clear x0 x1 x2
          refine (cr.out _ (HK.out.below HB2.out hkp)).mono ?_
          rintro e w3 ⟨rfl, hb⟩
          have HB3 := hidp (HB2.out.trans (hb.mono HB2.out.size))
          have HA3 := hidp (HA2.out.below hb HA2.out.lt)
          clear hb HB2 HA2
          go_wp2_with (first | (refine wpL_new rfl rfl ?_; intro p13 w4 n4; have HB4 := hidp (HB3.out.trans (n4.below.mono HB3.out.size)); have hg_p13 := hidp (Nat.le_trans HB3.out.size n4.le); have HA4 := hidp (n4.old HA3.out); have hl_HA_p13 := hidp (show p6 < p13 from by have := n4.at_; have := HA3.out.lt; omega); have H134 := hidp n4.arr; clear n4 HA3 HB3) | (refine wpL_put rfl (.tmp 13) (.tmp 39) rfl p13 R rfl rfl hRl.out _ rfl H134.out ?_; intro w5 ha hp; have HB5 := hidp (hp.below' HB4.out hg_p13.out); have HA5 := hidp (hp.arr (by have := hl_HA_p13.out; omega) HA4.out); have H135 := hidp ha; clear ha hp HB4 HA4 H134) | (refine wpL_getK rfl (.tmp 6) rfl p6 _ _ _ rfl HA5.out ?_))
          refine (cs.out _ (HK.out.below HB5.out hkp)).mono ?_
          rintro e w6 ⟨rfl, hb⟩
          have HB6 := hidp (HB5.out.trans (hb.mono HB5.out.size))
          have HA6 := hidp (HA5.out.below hb HA5.out.lt)
          have H136 := hidp (H135.out.below hb H135.out.lt)
          clear hb HB5 HA5 H135
          go_wp2_with (first | (refine wpL_newK rfl rfl ?_; intro p15 w7 n7; have HB7 := hidp (HB6.out.trans (n7.below.mono HB6.out.size)); have hg_p15 := hidp (Nat.le_trans HB6.out.size n7.le); have HA7 := hidp (n7.old HA6.out); have hl_HA_p15 := hidp (show p6 < p15 from by have := n7.at_; have := HA6.out.lt; omega); have H137 := hidp (n7.old H136.out); have hl_H13_p15 := hidp (show p13 < p15 from by have := n7.at_; have := H136.out.lt; omega); have H157 := hidp n7.arr; clear n7 HA6 H136 HB6) | (refine wpL_putK rfl (.tmp 15) (.tmp 45) rfl p15 (.string S) (.int .i64 H) (.int .i64 N) rfl rfl (by simp [Value.oneCell']) _ _ _ H157.out ?_; intro w8 ha hp; have HB8 := hidp (hp.below' HB7.out hg_p15.out); have HA8 := hidp (hp.arr (by have := hl_HA_p15.out; omega) HA7.out); have H138 := hidp (hp.arr (by have := hl_H13_p15.out; omega) H137.out); have H158 := hidp ha; clear ha hp HB7 HA7 H137 H157; obtain ⟨x0, x1, x2, -⟩ := arr3k HA8.out) | (refine wpL_get rfl (.tmp 13) rfl p13 R rfl hRl.out H138.out ?_) | (refine wpL_bldG rfl (.tmp 49) (.tmp 50) (.tmp 51) (.tmp 53) (.tmp 54) rfl g (by rw [hgp.out.1]; rfl) (by rw [hgp.out.2.1]; rfl) (by rw [hgp.out.2.2.1]; rfl) (by rw [hgp.out.2.2.2.1]; rfl) (by rw [hgp.out.2.2.2.2]; rfl) hgok ?_))
          clear x0 x1 x2
          refine (ca.out _).mono ?_
          rintro e w9 ⟨v9, rfl, ho, hb⟩
          have HB9 := hidp (HB8.out.trans (hb.mono HB8.out.size))
          have HA9 := hidp (HA8.out.below hb HA8.out.lt)
          have H139 := hidp (H138.out.below hb H138.out.lt)
          have H159 := hidp (H158.out.below hb H158.out.lt)
          have HO9 := hidp (ho.base (C := w.heap.size) HB8.out.size)
          clear ho
          obtain ⟨av, cv, rfl⟩ := HO9.out.rs.form
          clear hb HB8 HA8 H138 H158
          go_wp2_with fail
          go_ret
          exact ⟨rfl, HB9.out⟩
        · obtain ⟨g1, g2, g3⟩ := sg_yes tx.data.toList hok hn
          have hvf : vfE R H tx (mkS (sigL S.data.toList H.toNat N.toNat tx.data.toList)) = 0 := by
            have hRe : keyR S H N = rootV (leafL S.data.toList H.toNat) := by unfold keyR; rw [hok]; rfl
            have h := vf_sign (S := S) (h := H.toNat) (m := N.toNat) tx R (by omega) (by omega)
            rw [show ((H.toNat : Nat) : Int) = H from by omega, if_pos (by rw [← hRe, hR])] at h
            exact h
          have hGs : (mkS (sigL S.data.toList H.toNat N.toNat tx.data.toList)).size ≤ 281474976710656 := by
            rw [(sig_parts (S := S) (h := H.toNat) (m := N.toNat) tx.data.toList (by omega) (by omega)).2.1]; omega
          rw [g1, g2, g3] at cs
          obtain ⟨G, hG⟩ : ∃ G, mkS (sigL S.data.toList H.toNat N.toNat tx.data.toList) = G := ⟨_, rfl⟩
          rw [hG] at cs hvf hGs
          cases hvg : vG g with
          | false =>
            have h3 : adE [] g = 2 := by rw [ha1, hvg]; rfl
            rw [h3] at ca
            clear hE g1 g2 g3 hok ha1 ha2 hR hn q4 h3 hvf hGs hG hvg
            go_enter Tryd.func10, Tryd.ntmps10
            go_wp2_with (first | (refine wpL_boxK rfl (.tmp 0) rfl [.string S, .int .i64 H, .int .i64 N] rfl ?_; intro p6 w1 n1; have HB1 := hidp n1.below; have hg_p6 := hidp n1.le; have HA1 := hidp n1.arr; clear n1))
            refine (cb.out _).mono ?_
            rintro e w2 ⟨rfl, hb⟩
            have HB2 := hidp (HB1.out.trans (hb.mono HB1.out.size))
            have HA2 := hidp (HA1.out.below hb HA1.out.lt)
            clear hb HB1 HA1
            obtain ⟨x0, x1, x2, -⟩ := arr3k HA2.out
            go_wp2_with fail
            clear x0 x1 x2
            refine (cr.out _ (HK.out.below HB2.out hkp)).mono ?_
            rintro e w3 ⟨rfl, hb⟩
            have HB3 := hidp (HB2.out.trans (hb.mono HB2.out.size))
            have HA3 := hidp (HA2.out.below hb HA2.out.lt)
            clear hb HB2 HA2
            go_wp2_with (first | (refine wpL_new rfl rfl ?_; intro p13 w4 n4; have HB4 := hidp (HB3.out.trans (n4.below.mono HB3.out.size)); have hg_p13 := hidp (Nat.le_trans HB3.out.size n4.le); have HA4 := hidp (n4.old HA3.out); have hl_HA_p13 := hidp (show p6 < p13 from by have := n4.at_; have := HA3.out.lt; omega); have H134 := hidp n4.arr; clear n4 HA3 HB3) | (refine wpL_put rfl (.tmp 13) (.tmp 39) rfl p13 R rfl rfl hRl.out _ rfl H134.out ?_; intro w5 ha hp; have HB5 := hidp (hp.below' HB4.out hg_p13.out); have HA5 := hidp (hp.arr (by have := hl_HA_p13.out; omega) HA4.out); have H135 := hidp ha; clear ha hp HB4 HA4 H134) | (refine wpL_getK rfl (.tmp 6) rfl p6 _ _ _ rfl HA5.out ?_))
            refine (cs.out _ (HK.out.below HB5.out hkp)).mono ?_
            rintro e w6 ⟨rfl, hb⟩
            have HB6 := hidp (HB5.out.trans (hb.mono HB5.out.size))
            have HA6 := hidp (HA5.out.below hb HA5.out.lt)
            have H136 := hidp (H135.out.below hb H135.out.lt)
            clear hb HB5 HA5 H135
            go_wp2_with (first | (refine wpL_newK rfl rfl ?_; intro p15 w7 n7; have HB7 := hidp (HB6.out.trans (n7.below.mono HB6.out.size)); have hg_p15 := hidp (Nat.le_trans HB6.out.size n7.le); have HA7 := hidp (n7.old HA6.out); have hl_HA_p15 := hidp (show p6 < p15 from by have := n7.at_; have := HA6.out.lt; omega); have H137 := hidp (n7.old H136.out); have hl_H13_p15 := hidp (show p13 < p15 from by have := n7.at_; have := H136.out.lt; omega); have H157 := hidp n7.arr; clear n7 HA6 H136 HB6) | (refine wpL_putK rfl (.tmp 15) (.tmp 45) rfl p15 (.string S) (.int .i64 H) (.int .i64 (N + 1)) rfl rfl (by simp [Value.oneCell']) _ _ _ H157.out ?_; intro w8 ha hp; have HB8 := hidp (hp.below' HB7.out hg_p15.out); have HA8 := hidp (hp.arr (by have := hl_HA_p15.out; omega) HA7.out); have H138 := hidp (hp.arr (by have := hl_H13_p15.out; omega) H137.out); have H158 := hidp ha; clear ha hp HB7 HA7 H137 H157; obtain ⟨x0, x1, x2, -⟩ := arr3k HA8.out) | (refine wpL_get rfl (.tmp 13) rfl p13 R rfl hRl.out H138.out ?_) | (refine wpL_bldG rfl (.tmp 49) (.tmp 50) (.tmp 51) (.tmp 53) (.tmp 54) rfl g (by rw [hgp.out.1]; rfl) (by rw [hgp.out.2.1]; rfl) (by rw [hgp.out.2.2.1]; rfl) (by rw [hgp.out.2.2.2.1]; rfl) (by rw [hgp.out.2.2.2.2]; rfl) hgok ?_))
            clear x0 x1 x2
            refine (ca.out _).mono ?_
            rintro e w9 ⟨v9, rfl, ho, hb⟩
            have HB9 := hidp (HB8.out.trans (hb.mono HB8.out.size))
            have HA9 := hidp (HA8.out.below hb HA8.out.lt)
            have H139 := hidp (H138.out.below hb H138.out.lt)
            have H159 := hidp (H158.out.below hb H158.out.lt)
            have HO9 := hidp (ho.base (C := w.heap.size) HB8.out.size)
            clear ho
            obtain ⟨av, cv, rfl⟩ := HO9.out.rs.form
            clear hb HB8 HA8 H138 H158
            go_wp2_with fail
            go_ret
            exact ⟨rfl, HB9.out⟩
          | true =>
            have h3 : adE [] g = 0 := by rw [ha1, hvg]; rfl
            have HAD := hidp (ha2 hvg)
            rw [h3] at ca
            have hvp : 0 ≤ sv ∧ sv ≤ 63 := by
              have := hvg; unfold vG at this; simp only [Bool.and_eq_true, decide_eq_true_eq, hgp.out.1] at this; omega
            have hw1 : IntKind.i64.wrap (sv + 1) = sv + 1 := by rw [IntKind.wrap_i64]; omega
            have cw := fun W v (h : GsAt W v [g]) (s m : Int) (k : KT W) => bverify_any W v [g] h s m tx G (by omega) hGs k
            have cv2 := hidp (show ∀ W v, GsAt W v [g] → KT W → Calls Tryd.prog 40 #[v, .int .i64 (sv + 1), .int .i64 m, .string tx, .string G] W fun e w' => e = .returned (.int .i64 3) ∧ Below W.heap.size W w' from fun W v h k => by
              have := cw W v h (sv + 1) m k
              have hfd : fdG (sv + 1) m g = false := by unfold fdG; rw [hgp.out.1, decide_eq_false (by omega)]; rfl
              have hfe : fiE [g] (sv + 1) m = 3 := by rw [(fi_one hvg _ _).1, hfd]; rfl
              rw [show bvE [g] (sv + 1) m tx G = 3 from by unfold bvE; rw [hfe]; rfl] at this
              exact this)
            have hin : fdG sv m g = (decide (f ≤ m) && decide (m ≤ t)) := by unfold fdG; rw [hgp.out.1, hgp.out.2.1, hgp.out.2.2.1]; simp
            have cv0 := hidp (show ∀ W v, GsAt W v [g] → KT W → Calls Tryd.prog 40 #[v, .int .i64 sv, .int .i64 m, .string tx, .string G] W fun e w' => e = .returned (.int .i64 (if (decide (f ≤ m) && decide (m ≤ t)) = true then 0 else 3)) ∧ Below W.heap.size W w' from fun W v h k => by
              have := cw W v h sv m k
              have hb : bvE [g] sv m tx G = if (decide (f ≤ m) && decide (m ≤ t)) = true then 0 else 3 := by
                obtain ⟨f1, f2⟩ := fi_one hvg sv m
                rw [hin] at f1 f2
                unfold bvE
                rw [f1]
                by_cases hq : (decide (f ≤ m) && decide (m ≤ t)) = true
                · rw [if_pos hq, if_pos rfl, f2 hq, hgp.out.2.2.2.1, hgp.out.2.2.2.2, hvf]
                · rw [if_neg hq, if_neg (by decide)]
              rw [hb] at this; exact this)
            clear hE g1 g2 g3 hok ha1 ha2 hR hn q4 h3 hvf hG hvg hin cw
            by_cases hfm : f ≤ m
            · have d1 : decide (f ≤ m) = true := decide_eq_true hfm
              by_cases hmt : m ≤ t
              · have d2 : decide (m ≤ t) = true := decide_eq_true hmt
                have cv1 := hidp cv0.out
                rw [d1, d2] at cv1
                simp only [Bool.and_self, if_true] at cv1
                go_enter Tryd.func10, Tryd.ntmps10
                go_wp2_with (first | (refine wpL_boxK rfl (.tmp 0) rfl [.string S, .int .i64 H, .int .i64 N] rfl ?_; intro p6 w1 n1; have HB1 := hidp n1.below; have hg_p6 := hidp n1.le; have HA1 := hidp n1.arr; clear n1))
                refine (cb.out _).mono ?_
                rintro e w2 ⟨rfl, hb⟩
                have HB2 := hidp (HB1.out.trans (hb.mono HB1.out.size))
                have HA2 := hidp (HA1.out.below hb HA1.out.lt)
                clear hb HB1 HA1
                obtain ⟨x0, x1, x2, -⟩ := arr3k HA2.out
                go_wp2_with fail
                clear x0 x1 x2
                refine (cr.out _ (HK.out.below HB2.out hkp)).mono ?_
                rintro e w3 ⟨rfl, hb⟩
                have HB3 := hidp (HB2.out.trans (hb.mono HB2.out.size))
                have HA3 := hidp (HA2.out.below hb HA2.out.lt)
                clear hb HB2 HA2
                go_wp2_with (first | (refine wpL_new rfl rfl ?_; intro p13 w4 n4; have HB4 := hidp (HB3.out.trans (n4.below.mono HB3.out.size)); have hg_p13 := hidp (Nat.le_trans HB3.out.size n4.le); have HA4 := hidp (n4.old HA3.out); have hl_HA_p13 := hidp (show p6 < p13 from by have := n4.at_; have := HA3.out.lt; omega); have H134 := hidp n4.arr; clear n4 HA3 HB3) | (refine wpL_put rfl (.tmp 13) (.tmp 39) rfl p13 R rfl rfl hRl.out _ rfl H134.out ?_; intro w5 ha hp; have HB5 := hidp (hp.below' HB4.out hg_p13.out); have HA5 := hidp (hp.arr (by have := hl_HA_p13.out; omega) HA4.out); have H135 := hidp ha; clear ha hp HB4 HA4 H134) | (refine wpL_getK rfl (.tmp 6) rfl p6 _ _ _ rfl HA5.out ?_))
                refine (cs.out _ (HK.out.below HB5.out hkp)).mono ?_
                rintro e w6 ⟨rfl, hb⟩
                have HB6 := hidp (HB5.out.trans (hb.mono HB5.out.size))
                have HA6 := hidp (HA5.out.below hb HA5.out.lt)
                have H136 := hidp (H135.out.below hb H135.out.lt)
                clear hb HB5 HA5 H135
                go_wp2_with (first | (refine wpL_newK rfl rfl ?_; intro p15 w7 n7; have HB7 := hidp (HB6.out.trans (n7.below.mono HB6.out.size)); have hg_p15 := hidp (Nat.le_trans HB6.out.size n7.le); have HA7 := hidp (n7.old HA6.out); have hl_HA_p15 := hidp (show p6 < p15 from by have := n7.at_; have := HA6.out.lt; omega); have H137 := hidp (n7.old H136.out); have hl_H13_p15 := hidp (show p13 < p15 from by have := n7.at_; have := H136.out.lt; omega); have H157 := hidp n7.arr; clear n7 HA6 H136 HB6) | (refine wpL_putK rfl (.tmp 15) (.tmp 45) rfl p15 (.string S) (.int .i64 H) (.int .i64 (N + 1)) rfl rfl (by simp [Value.oneCell']) _ _ _ H157.out ?_; intro w8 ha hp; have HB8 := hidp (hp.below' HB7.out hg_p15.out); have HA8 := hidp (hp.arr (by have := hl_HA_p15.out; omega) HA7.out); have H138 := hidp (hp.arr (by have := hl_H13_p15.out; omega) H137.out); have H158 := hidp ha; clear ha hp HB7 HA7 H137 H157; obtain ⟨x0, x1, x2, -⟩ := arr3k HA8.out) | (refine wpL_get rfl (.tmp 13) rfl p13 R rfl hRl.out H138.out ?_) | (refine wpL_bldG rfl (.tmp 49) (.tmp 50) (.tmp 51) (.tmp 53) (.tmp 54) rfl g (by rw [hgp.out.1]; rfl) (by rw [hgp.out.2.1]; rfl) (by rw [hgp.out.2.2.1]; rfl) (by rw [hgp.out.2.2.2.1]; rfl) (by rw [hgp.out.2.2.2.2]; rfl) hgok ?_))
                clear x0 x1 x2
                refine (ca.out _).mono ?_
                rintro e w9 ⟨v9, rfl, ho, hb⟩
                have HB9 := hidp (HB8.out.trans (hb.mono HB8.out.size))
                have HA9 := hidp (HA8.out.below hb HA8.out.lt)
                have H139 := hidp (H138.out.below hb H138.out.lt)
                have H159 := hidp (H158.out.below hb H158.out.lt)
                have HO9 := hidp (ho.base (C := w.heap.size) HB8.out.size)
                clear ho
                obtain ⟨av, cv, rfl⟩ := HO9.out.rs.form
                clear hb HB8 HA8 H138 H158
                have hln : (rows (adL [] g)).length = 1 := by rw [HAD.out]; rfl
                rw [hln] at HO9 ⊢
                have HG9 := hidp (show GsAt w9 (.slice av 1 cv) [g] from ⟨by have := HO9.out.rs; rw [HAD.out] at this; exact this, fun x hx => by simp at hx; subst hx; exact hgok⟩)
                clear hln HO9
                go_wp2_with fail
                refine (cv1.out _ _ HG9.out (HK.out.below HB9.out hkp)).mono ?_
                rintro e wa ⟨rfl, hb⟩
                have HBa := hidp (HB9.out.trans (hb.mono HB9.out.size)); have HGa := hidp (HG9.out.to hb)
                clear hb
                go_wp2_with fail
                refine (cv2.out _ _ HGa.out (HK.out.below HBa.out hkp)).mono ?_
                rintro e wc ⟨rfl, hb⟩
                have HBc := hidp (HBa.out.trans (hb.mono HBa.out.size))
                clear hb
                go_wp2_with fail
                go_ret
                exact ⟨rfl, HBc.out⟩
              · have d2 : decide (m ≤ t) = false := decide_eq_false hmt
                have cv1 := hidp cv0.out
                rw [d1, d2] at cv1
                simp only [Bool.and_false, Bool.false_eq_true, if_false] at cv1
                go_enter Tryd.func10, Tryd.ntmps10
                go_wp2_with (first | (refine wpL_boxK rfl (.tmp 0) rfl [.string S, .int .i64 H, .int .i64 N] rfl ?_; intro p6 w1 n1; have HB1 := hidp n1.below; have hg_p6 := hidp n1.le; have HA1 := hidp n1.arr; clear n1))
                refine (cb.out _).mono ?_
                rintro e w2 ⟨rfl, hb⟩
                have HB2 := hidp (HB1.out.trans (hb.mono HB1.out.size))
                have HA2 := hidp (HA1.out.below hb HA1.out.lt)
                clear hb HB1 HA1
                obtain ⟨x0, x1, x2, -⟩ := arr3k HA2.out
                go_wp2_with fail
                clear x0 x1 x2
                refine (cr.out _ (HK.out.below HB2.out hkp)).mono ?_
                rintro e w3 ⟨rfl, hb⟩
                have HB3 := hidp (HB2.out.trans (hb.mono HB2.out.size))
                have HA3 := hidp (HA2.out.below hb HA2.out.lt)
                clear hb HB2 HA2
                go_wp2_with (first | (refine wpL_new rfl rfl ?_; intro p13 w4 n4; have HB4 := hidp (HB3.out.trans (n4.below.mono HB3.out.size)); have hg_p13 := hidp (Nat.le_trans HB3.out.size n4.le); have HA4 := hidp (n4.old HA3.out); have hl_HA_p13 := hidp (show p6 < p13 from by have := n4.at_; have := HA3.out.lt; omega); have H134 := hidp n4.arr; clear n4 HA3 HB3) | (refine wpL_put rfl (.tmp 13) (.tmp 39) rfl p13 R rfl rfl hRl.out _ rfl H134.out ?_; intro w5 ha hp; have HB5 := hidp (hp.below' HB4.out hg_p13.out); have HA5 := hidp (hp.arr (by have := hl_HA_p13.out; omega) HA4.out); have H135 := hidp ha; clear ha hp HB4 HA4 H134) | (refine wpL_getK rfl (.tmp 6) rfl p6 _ _ _ rfl HA5.out ?_))
                refine (cs.out _ (HK.out.below HB5.out hkp)).mono ?_
                rintro e w6 ⟨rfl, hb⟩
                have HB6 := hidp (HB5.out.trans (hb.mono HB5.out.size))
                have HA6 := hidp (HA5.out.below hb HA5.out.lt)
                have H136 := hidp (H135.out.below hb H135.out.lt)
                clear hb HB5 HA5 H135
                go_wp2_with (first | (refine wpL_newK rfl rfl ?_; intro p15 w7 n7; have HB7 := hidp (HB6.out.trans (n7.below.mono HB6.out.size)); have hg_p15 := hidp (Nat.le_trans HB6.out.size n7.le); have HA7 := hidp (n7.old HA6.out); have hl_HA_p15 := hidp (show p6 < p15 from by have := n7.at_; have := HA6.out.lt; omega); have H137 := hidp (n7.old H136.out); have hl_H13_p15 := hidp (show p13 < p15 from by have := n7.at_; have := H136.out.lt; omega); have H157 := hidp n7.arr; clear n7 HA6 H136 HB6) | (refine wpL_putK rfl (.tmp 15) (.tmp 45) rfl p15 (.string S) (.int .i64 H) (.int .i64 (N + 1)) rfl rfl (by simp [Value.oneCell']) _ _ _ H157.out ?_; intro w8 ha hp; have HB8 := hidp (hp.below' HB7.out hg_p15.out); have HA8 := hidp (hp.arr (by have := hl_HA_p15.out; omega) HA7.out); have H138 := hidp (hp.arr (by have := hl_H13_p15.out; omega) H137.out); have H158 := hidp ha; clear ha hp HB7 HA7 H137 H157; obtain ⟨x0, x1, x2, -⟩ := arr3k HA8.out) | (refine wpL_get rfl (.tmp 13) rfl p13 R rfl hRl.out H138.out ?_) | (refine wpL_bldG rfl (.tmp 49) (.tmp 50) (.tmp 51) (.tmp 53) (.tmp 54) rfl g (by rw [hgp.out.1]; rfl) (by rw [hgp.out.2.1]; rfl) (by rw [hgp.out.2.2.1]; rfl) (by rw [hgp.out.2.2.2.1]; rfl) (by rw [hgp.out.2.2.2.2]; rfl) hgok ?_))
                clear x0 x1 x2
                refine (ca.out _).mono ?_
                rintro e w9 ⟨v9, rfl, ho, hb⟩
                have HB9 := hidp (HB8.out.trans (hb.mono HB8.out.size))
                have HA9 := hidp (HA8.out.below hb HA8.out.lt)
                have H139 := hidp (H138.out.below hb H138.out.lt)
                have H159 := hidp (H158.out.below hb H158.out.lt)
                have HO9 := hidp (ho.base (C := w.heap.size) HB8.out.size)
                clear ho
                obtain ⟨av, cv, rfl⟩ := HO9.out.rs.form
                clear hb HB8 HA8 H138 H158
                have hln : (rows (adL [] g)).length = 1 := by rw [HAD.out]; rfl
                rw [hln] at HO9 ⊢
                have HG9 := hidp (show GsAt w9 (.slice av 1 cv) [g] from ⟨by have := HO9.out.rs; rw [HAD.out] at this; exact this, fun x hx => by simp at hx; subst hx; exact hgok⟩)
                clear hln HO9
                go_wp2_with fail
                refine (cv1.out _ _ HG9.out (HK.out.below HB9.out hkp)).mono ?_
                rintro e wa ⟨rfl, hb⟩
                have HBa := hidp (HB9.out.trans (hb.mono HB9.out.size)); have HGa := hidp (HG9.out.to hb)
                clear hb
                go_wp2_with fail
                refine (cv2.out _ _ HGa.out (HK.out.below HBa.out hkp)).mono ?_
                rintro e wc ⟨rfl, hb⟩
                have HBc := hidp (HBa.out.trans (hb.mono HBa.out.size))
                clear hb
                go_wp2_with fail
                go_ret
                exact ⟨rfl, HBc.out⟩
            · have d1 : decide (f ≤ m) = false := decide_eq_false hfm
              have cv1 := hidp cv0.out
              rw [d1] at cv1
              simp only [Bool.false_and, Bool.false_eq_true, if_false] at cv1
              go_enter Tryd.func10, Tryd.ntmps10
              go_wp2_with (first | (refine wpL_boxK rfl (.tmp 0) rfl [.string S, .int .i64 H, .int .i64 N] rfl ?_; intro p6 w1 n1; have HB1 := hidp n1.below; have hg_p6 := hidp n1.le; have HA1 := hidp n1.arr; clear n1))
              refine (cb.out _).mono ?_
              rintro e w2 ⟨rfl, hb⟩
              have HB2 := hidp (HB1.out.trans (hb.mono HB1.out.size))
              have HA2 := hidp (HA1.out.below hb HA1.out.lt)
              clear hb HB1 HA1
              obtain ⟨x0, x1, x2, -⟩ := arr3k HA2.out
              go_wp2_with fail
              clear x0 x1 x2
              refine (cr.out _ (HK.out.below HB2.out hkp)).mono ?_
              rintro e w3 ⟨rfl, hb⟩
              have HB3 := hidp (HB2.out.trans (hb.mono HB2.out.size))
              have HA3 := hidp (HA2.out.below hb HA2.out.lt)
              clear hb HB2 HA2
              go_wp2_with (first | (refine wpL_new rfl rfl ?_; intro p13 w4 n4; have HB4 := hidp (HB3.out.trans (n4.below.mono HB3.out.size)); have hg_p13 := hidp (Nat.le_trans HB3.out.size n4.le); have HA4 := hidp (n4.old HA3.out); have hl_HA_p13 := hidp (show p6 < p13 from by have := n4.at_; have := HA3.out.lt; omega); have H134 := hidp n4.arr; clear n4 HA3 HB3) | (refine wpL_put rfl (.tmp 13) (.tmp 39) rfl p13 R rfl rfl hRl.out _ rfl H134.out ?_; intro w5 ha hp; have HB5 := hidp (hp.below' HB4.out hg_p13.out); have HA5 := hidp (hp.arr (by have := hl_HA_p13.out; omega) HA4.out); have H135 := hidp ha; clear ha hp HB4 HA4 H134) | (refine wpL_getK rfl (.tmp 6) rfl p6 _ _ _ rfl HA5.out ?_))
              refine (cs.out _ (HK.out.below HB5.out hkp)).mono ?_
              rintro e w6 ⟨rfl, hb⟩
              have HB6 := hidp (HB5.out.trans (hb.mono HB5.out.size))
              have HA6 := hidp (HA5.out.below hb HA5.out.lt)
              have H136 := hidp (H135.out.below hb H135.out.lt)
              clear hb HB5 HA5 H135
              go_wp2_with (first | (refine wpL_newK rfl rfl ?_; intro p15 w7 n7; have HB7 := hidp (HB6.out.trans (n7.below.mono HB6.out.size)); have hg_p15 := hidp (Nat.le_trans HB6.out.size n7.le); have HA7 := hidp (n7.old HA6.out); have hl_HA_p15 := hidp (show p6 < p15 from by have := n7.at_; have := HA6.out.lt; omega); have H137 := hidp (n7.old H136.out); have hl_H13_p15 := hidp (show p13 < p15 from by have := n7.at_; have := H136.out.lt; omega); have H157 := hidp n7.arr; clear n7 HA6 H136 HB6) | (refine wpL_putK rfl (.tmp 15) (.tmp 45) rfl p15 (.string S) (.int .i64 H) (.int .i64 (N + 1)) rfl rfl (by simp [Value.oneCell']) _ _ _ H157.out ?_; intro w8 ha hp; have HB8 := hidp (hp.below' HB7.out hg_p15.out); have HA8 := hidp (hp.arr (by have := hl_HA_p15.out; omega) HA7.out); have H138 := hidp (hp.arr (by have := hl_H13_p15.out; omega) H137.out); have H158 := hidp ha; clear ha hp HB7 HA7 H137 H157; obtain ⟨x0, x1, x2, -⟩ := arr3k HA8.out) | (refine wpL_get rfl (.tmp 13) rfl p13 R rfl hRl.out H138.out ?_) | (refine wpL_bldG rfl (.tmp 49) (.tmp 50) (.tmp 51) (.tmp 53) (.tmp 54) rfl g (by rw [hgp.out.1]; rfl) (by rw [hgp.out.2.1]; rfl) (by rw [hgp.out.2.2.1]; rfl) (by rw [hgp.out.2.2.2.1]; rfl) (by rw [hgp.out.2.2.2.2]; rfl) hgok ?_))
              clear x0 x1 x2
              refine (ca.out _).mono ?_
              rintro e w9 ⟨v9, rfl, ho, hb⟩
              have HB9 := hidp (HB8.out.trans (hb.mono HB8.out.size))
              have HA9 := hidp (HA8.out.below hb HA8.out.lt)
              have H139 := hidp (H138.out.below hb H138.out.lt)
              have H159 := hidp (H158.out.below hb H158.out.lt)
              have HO9 := hidp (ho.base (C := w.heap.size) HB8.out.size)
              clear ho
              obtain ⟨av, cv, rfl⟩ := HO9.out.rs.form
              clear hb HB8 HA8 H138 H158
              have hln : (rows (adL [] g)).length = 1 := by rw [HAD.out]; rfl
              rw [hln] at HO9 ⊢
              have HG9 := hidp (show GsAt w9 (.slice av 1 cv) [g] from ⟨by have := HO9.out.rs; rw [HAD.out] at this; exact this, fun x hx => by simp at hx; subst hx; exact hgok⟩)
              clear hln HO9
              go_wp2_with fail
              refine (cv1.out _ _ HG9.out (HK.out.below HB9.out hkp)).mono ?_
              rintro e wa ⟨rfl, hb⟩
              have HBa := hidp (HB9.out.trans (hb.mono HB9.out.size)); have HGa := hidp (HG9.out.to hb)
              clear hb
              go_wp2_with fail
              refine (cv2.out _ _ HGa.out (HK.out.below HBa.out hkp)).mono ?_
              rintro e wc ⟨rfl, hb⟩
              have HBc := hidp (HBa.out.trans (hb.mono HBa.out.size))
              clear hb
              go_wp2_with fail
              go_ret
              exact ⟨rfl, HBc.out⟩
  · have e2 : decide (H > 3) = true := by simp; omega
    have n2 : 3 < H := h3.1
    have e3 : decide (H ≤ 7) = true := by simp; omega
    clear hR h3
    go_enter Tryd.func10, Tryd.ntmps10
    go_wp2_with (first | (refine wpL_boxK rfl (.tmp 0) rfl [.string S, .int .i64 H, .int .i64 N] rfl ?_; intro p6 w1 n1; have HB1 := hidp n1.below; have hg_p6 := hidp n1.le; have HA1 := hidp n1.arr; clear n1))
    refine (cb.out _).mono ?_
    rintro e w2 ⟨rfl, hb⟩
    have HB2 := hidp (HB1.out.trans (hb.mono HB1.out.size))
    have HA2 := hidp (HA1.out.below hb HA1.out.lt)
    clear hb HB1 HA1
    obtain ⟨x0, x1, x2, -⟩ := arr3k HA2.out
    go_wp2_with fail
    go_ret
    exact ⟨rfl, HB2.out⟩
  · have e2 : decide (H > 3) = true := by simp; omega
    have n2 : 3 < H := by omega
    have e3 : decide (H ≤ 7) = false := by simp; omega
    by_cases h16 : 16384 < tx.size
    · have e4 : decide ((tx.size : Int) > 16384) = true := by simp; omega
      clear hR
      go_enter Tryd.func10, Tryd.ntmps10
      go_wp2_with (first | (refine wpL_boxK rfl (.tmp 0) rfl [.string S, .int .i64 H, .int .i64 N] rfl ?_; intro p6 w1 n1; have HB1 := hidp n1.below; have hg_p6 := hidp n1.le; have HA1 := hidp n1.arr; clear n1))
      refine (cb.out _).mono ?_
      rintro e w2 ⟨rfl, hb⟩
      have HB2 := hidp (HB1.out.trans (hb.mono HB1.out.size))
      have HA2 := hidp (HA1.out.below hb HA1.out.lt)
      clear hb HB1 HA1
      obtain ⟨x0, x1, x2, -⟩ := arr3k HA2.out
      go_wp2_with fail
      go_ret
      exact ⟨rfl, HB2.out⟩
    · have e4 : decide ((tx.size : Int) > 16384) = false := by simp; omega
      have n4 : ¬ 16384 < tx.size := h16
      have cs := hidp (fun W (k : KT W) => ksign_any W S H N tx (by omega) k)
      have hgok : Gr.ok ⟨sv, f, t, H, R⟩ := hRl.out
      obtain ⟨ha1, ha2⟩ := ad_nil ⟨sv, f, t, H, R⟩
      have ca := hidp (show ∀ W, Calls Tryd.prog 29 #[.slice none 0 0, .agg (Gr.row ⟨sv, f, t, H, R⟩).toArray] W fun e w' => ∃ v', e = .returned (.tuple #[v', .int .i64 (adE [] ⟨sv, f, t, H, R⟩)]) ∧ OwnR 55 36 w' W.heap.size v' (rows (adL [] ⟨sv, f, t, H, R⟩)) ∧ Below W.heap.size W w' from fun W => badd_any W (.slice none 0 0) [] ⟨RsAt.nil W, fun _ h => by cases h⟩ ⟨sv, f, t, H, R⟩ hgok)
      obtain ⟨g, hge⟩ : ∃ g : Gr, (⟨sv, f, t, H, R⟩ : Gr) = g := ⟨_, rfl⟩
      have hgp := hidp (show g.s = sv ∧ g.f = f ∧ g.t = t ∧ g.h = H ∧ g.r = R from by rw [← hge]; exact ⟨rfl, rfl, rfl, rfl, rfl⟩)
      rw [hge] at hgok ha1 ha2 ca
      clear hge
      cases hok : kyOk S H N with
      | false =>
        have hE : kyE S H N = 2 := by unfold kyE; rw [hok]; rfl
        obtain ⟨g1, g2, g3⟩ := sg_no tx.data.toList hok
        rw [hE] at cr
        rw [g1, g2, g3] at cs
        obtain ⟨E3, hE3⟩ : ∃ E, adE [] g = E := ⟨_, rfl⟩
        rw [hE3] at ca
        clear hE g1 g2 g3 hok hE3 ha1 ha2 hR
        go_enter Tryd.func10, Tryd.ntmps10
        go_wp2_with (first | (refine wpL_boxK rfl (.tmp 0) rfl [.string S, .int .i64 H, .int .i64 N] rfl ?_; intro p6 w1 n1; have HB1 := hidp n1.below; have hg_p6 := hidp n1.le; have HA1 := hidp n1.arr; clear n1))
        refine (cb.out _).mono ?_
        rintro e w2 ⟨rfl, hb⟩
        have HB2 := hidp (HB1.out.trans (hb.mono HB1.out.size))
        have HA2 := hidp (HA1.out.below hb HA1.out.lt)
        clear hb HB1 HA1
        obtain ⟨x0, x1, x2, -⟩ := arr3k HA2.out
        go_wp2_with fail
        clear x0 x1 x2
        refine (cr.out _ (HK.out.below HB2.out hkp)).mono ?_
        rintro e w3 ⟨rfl, hb⟩
        have HB3 := hidp (HB2.out.trans (hb.mono HB2.out.size))
        have HA3 := hidp (HA2.out.below hb HA2.out.lt)
        clear hb HB2 HA2
        go_wp2_with (first | (refine wpL_new rfl rfl ?_; intro p13 w4 n4; have HB4 := hidp (HB3.out.trans (n4.below.mono HB3.out.size)); have hg_p13 := hidp (Nat.le_trans HB3.out.size n4.le); have HA4 := hidp (n4.old HA3.out); have hl_HA_p13 := hidp (show p6 < p13 from by have := n4.at_; have := HA3.out.lt; omega); have H134 := hidp n4.arr; clear n4 HA3 HB3) | (refine wpL_put rfl (.tmp 13) (.tmp 39) rfl p13 R rfl rfl hRl.out _ rfl H134.out ?_; intro w5 ha hp; have HB5 := hidp (hp.below' HB4.out hg_p13.out); have HA5 := hidp (hp.arr (by have := hl_HA_p13.out; omega) HA4.out); have H135 := hidp ha; clear ha hp HB4 HA4 H134) | (refine wpL_getK rfl (.tmp 6) rfl p6 _ _ _ rfl HA5.out ?_))
        refine (cs.out _ (HK.out.below HB5.out hkp)).mono ?_
        rintro e w6 ⟨rfl, hb⟩
        have HB6 := hidp (HB5.out.trans (hb.mono HB5.out.size))
        have HA6 := hidp (HA5.out.below hb HA5.out.lt)
        have H136 := hidp (H135.out.below hb H135.out.lt)
        clear hb HB5 HA5 H135
        go_wp2_with (first | (refine wpL_newK rfl rfl ?_; intro p15 w7 n7; have HB7 := hidp (HB6.out.trans (n7.below.mono HB6.out.size)); have hg_p15 := hidp (Nat.le_trans HB6.out.size n7.le); have HA7 := hidp (n7.old HA6.out); have hl_HA_p15 := hidp (show p6 < p15 from by have := n7.at_; have := HA6.out.lt; omega); have H137 := hidp (n7.old H136.out); have hl_H13_p15 := hidp (show p13 < p15 from by have := n7.at_; have := H136.out.lt; omega); have H157 := hidp n7.arr; clear n7 HA6 H136 HB6) | (refine wpL_putK rfl (.tmp 15) (.tmp 45) rfl p15 (.string ⟨#[]⟩) (.int .i64 0) (.int .i64 0) rfl rfl (by simp [Value.oneCell']) _ _ _ H157.out ?_; intro w8 ha hp; have HB8 := hidp (hp.below' HB7.out hg_p15.out); have HA8 := hidp (hp.arr (by have := hl_HA_p15.out; omega) HA7.out); have H138 := hidp (hp.arr (by have := hl_H13_p15.out; omega) H137.out); have H158 := hidp ha; clear ha hp HB7 HA7 H137 H157; obtain ⟨x0, x1, x2, -⟩ := arr3k HA8.out) | (refine wpL_get rfl (.tmp 13) rfl p13 R rfl hRl.out H138.out ?_) | (refine wpL_bldG rfl (.tmp 49) (.tmp 50) (.tmp 51) (.tmp 53) (.tmp 54) rfl g (by rw [hgp.out.1]; rfl) (by rw [hgp.out.2.1]; rfl) (by rw [hgp.out.2.2.1]; rfl) (by rw [hgp.out.2.2.2.1]; rfl) (by rw [hgp.out.2.2.2.2]; rfl) hgok ?_))
        clear x0 x1 x2
        refine (ca.out _).mono ?_
        rintro e w9 ⟨v9, rfl, ho, hb⟩
        have HB9 := hidp (HB8.out.trans (hb.mono HB8.out.size))
        have HA9 := hidp (HA8.out.below hb HA8.out.lt)
        have H139 := hidp (H138.out.below hb H138.out.lt)
        have H159 := hidp (H158.out.below hb H158.out.lt)
        have HO9 := hidp (ho.base (C := w.heap.size) HB8.out.size)
        clear ho
        obtain ⟨av, cv, rfl⟩ := HO9.out.rs.form
        clear hb HB8 HA8 H138 H158
        go_wp2_with fail
        go_ret
        exact ⟨rfl, HB9.out⟩
      | true => exact absurd (kyOk_parts hok).2.1.2 (by omega)
end Go.Proofs.YtgfdhgnkanekhaaDoor

namespace Go.Proofs.YtgfdhgnkanekhaaDoor
set_option maxRecDepth 100000
set_option linter.unusedVariables false
set_option linter.unusedSimpArgs false
open Go.RowKit Go.ChangeShapes Go.WideShapes Go.ChangeAt

theorem sized_agg {H : Type} {P : Program} {ts : List TypeId} {ds : List (DataW H)} (h : (DataW.weightsEach P ts ds).all (· ≤ reachBytes) = true) {j : Nat} {t : TypeId} {parts : List (DataW H)} {fs : Array Field}
    (ht : ts[j]? = some t) (hd : ds[j]? = some (.agg parts)) (hu : P.underlying t = some (.struct fs)) : (DataW.weightsEach P (fs.toList.map (·.type)) parts).all (· ≤ reachBytes) = true := by
  rw [List.all_eq_true]
  intro x hx
  exact List.all_eq_true.1 h x (DataW.weights_mem_each ht hd x (by simp only [DataW.weights, hu]; exact hx))
section
variable {H : Type} {enc : TypeId × Value → H} {w : World} {base : Nat} {spare : Nat → Bool} {held : Bool}
theorem open_key {r : Reach} {b0 : Nat} {v : Value} {d : DataW H} {ps : List MemPlace} (hval : Value.okWide Tryd.prog w r b0 23 v) (hd : DataW.Trod enc Tryd.prog w base spare held 23 v d ps) :
    ∃ (s : ByteArray) (x y : Int), v = .agg #[.string s, .int .i64 x, .int .i64 y] ∧ (Lit.int .i64 x).wf = true ∧ (Lit.int .i64 y).wf = true ∧ d = .agg [.lit (.string s.data.toList), .lit (.int .i64 x), .lit (.int .i64 y)] := by
  obtain ⟨v0, v1, v2, y0, y1, y2, n, rfl, hd1, -, h0, h1, h2⟩ := Go.Joins.open_agg3 Tryd.underlying23 (by kernel_rfl) (by kernel_rfl) hval hd
  obtain ⟨s, hs, hy0, _⟩ := DataW.trod_string Tryd.underlying9 h0
  obtain ⟨x, hx, hy1, wx⟩ := DataW.trod_int Tryd.underlying3 h1
  obtain ⟨y, hy, hy2, wy⟩ := DataW.trod_int Tryd.underlying3 h2
  simp at hs hx hy
  subst hs hx hy
  exact ⟨s, x, y, rfl, wx, wy, by rw [hd1, hy0, hy1, hy2]⟩
end
end Go.Proofs.YtgfdhgnkanekhaaDoor

namespace Go.Proofs.YtgfdhgnkanekhaaDoor.topGranted
open Go.ChangeShapes Go.WideShapes Go.ChangeAt Go.RowKit
open Go.ChangeMaps (open_string shut_string)
open Go.ChangeShapes (open_strings)
set_option linter.unusedVariables false

theorem own : ownKnob Tryd.prog.godebug = none := by kernel_rfl
theorem laidOut : laidOutB Tryd.prog = true := by kernel_rfl

set_option maxRecDepth 100000 in
theorem contract (H : Type) (enc : TypeId × Value → H) (W : World) (base : Nat) (args : Array Value) (ds gs : List (DataW H)) (before : List MemPlace)
    (hval0 : ∀ (j : Nat) t v, Tryd.f10.params[j]? = some t → args[j]? = some v → Value.okWide Tryd.prog W .any base t v)
    (hW : DataW.Whole enc Tryd.prog Tryd.f10.params.toList Rows.topGrantedSpec.vars false W args.toList ds gs before)
    (hsz0 : (DataW.weightsEach Tryd.prog (Tryd.f10.params.toList ++ Rows.topGrantedSpec.plain.varTypes Tryd.prog) (ds ++ gs)).all (· ≤ reachBytes) = true)
    (hL : laidMetH Tryd.prog Rows.topGrantedRow.laid W) :
    Calls Tryd.prog 10 args W fun e W' => ∃ v, e = .returned v ∧ Rows.topGrantedSpec.post enc Tryd.prog Tryd.f10 false true false false W args v W' := by
  have hsz := hsz0
  have hval := hval0
  have hW' := hW
  obtain ⟨p, q, hA0, hV, rfl, hfz, hnd⟩ := hW
  have hA : DataW.TrodAll enc Tryd.prog W 0 (fun _ => true) true Tryd.f10.params.toList args.toList ds p := hA0
  rw [Tryd.params10] at hA hval hsz
  obtain ⟨v0, vs0, d0, ds0, p0, q0, hargs, rfl, rfl, h0, r0⟩ := trodAll_cons hA
  obtain ⟨v1, vs1, d1, ds1, p1, q1, rfl, rfl, rfl, h1, r1⟩ := trodAll_cons r0
  obtain ⟨v2, vs2, d2, ds2, p2, q2, rfl, rfl, rfl, h2, r2⟩ := trodAll_cons r1
  obtain ⟨v3, vs3, d3, ds3, p3, q3, rfl, rfl, rfl, h3, r3⟩ := trodAll_cons r2
  obtain ⟨v4, vs4, d4, ds4, p4, q4, rfl, rfl, rfl, h4, r4⟩ := trodAll_cons r3
  obtain ⟨v5, vs5, d5, ds5, p5, q5, rfl, rfl, rfl, h5, r5⟩ := trodAll_cons r4
  obtain ⟨rfl, rfl, rfl⟩ := trodAll_nil r5
  obtain rfl : args = #[v0, v1, v2, v3, v4, v5] := by cases args; simp_all
  obtain ⟨rfl, rfl⟩ := trodVars_none hV
  have k0 := h0
  have lt0 : ∀ x ∈ p0, x.block < W.heap.size := by obtain ⟨m, hm⟩ := k0; exact DataW.trod_lt m _ _ _ hm
  obtain ⟨a0, b0, c0, rfl, wb0, wc0, rfl⟩ := open_key (hval 0 23 v0 rfl rfl) h0
  have wa0 : a0.size ≤ 140737488351232 := by
    have := sized_string (sized_agg hsz (j := 0) rfl rfl Tryd.underlying23) (j := 0) rfl rfl
    simpa [reachBytes] using this
  obtain ⟨a1, rfl, rfl, rfl, w1⟩ := open_int Tryd.underlying3 (hval 1 3 v1 rfl rfl) h1
  obtain ⟨a2, rfl, rfl, rfl, w2⟩ := open_int Tryd.underlying2 (hval 2 2 v2 rfl rfl) h2
  obtain ⟨a3, rfl, rfl, rfl, w3⟩ := open_int Tryd.underlying2 (hval 3 2 v3 rfl rfl) h3
  obtain ⟨a4, rfl, rfl, rfl, w4⟩ := open_int Tryd.underlying2 (hval 4 2 v4 rfl rfl) h4
  obtain ⟨a5, rfl, rfl, rfl, w5⟩ := open_string Tryd.underlying9 (hval 5 9 v5 rfl rfl) h5
  clear hA0 hval0
  simp only [List.append_nil] at hW'
  refine (walk_topGranted W a0 b0 c0 wa0 wb0 wc0 a1 w1 a2 w2 a3 w3 a4 w4 a5 (by have := sized_string hsz (j := 5) rfl rfl; simpa [reachBytes] using this) (kt_of_laid (rest := []) hL)).mono fun e W' ⟨he, bel⟩ => ?_
  subst he
  exact ⟨_, rfl, _, _, _, [], _, [], hW', trodAll_mk1 (shut_bool Tryd.underlying4 _), (trodAll_cons_mk (Below.trod laidOut (by kernel_rfl) (of_decide_eq_true (by kernel_rfl)) k0 bel lt0) (trodAll_cons_mk (shut_int Tryd.underlying3 w1) (trodAll_cons_mk (shut_int Tryd.underlying2 w2) (trodAll_cons_mk (shut_int Tryd.underlying2 w3) (trodAll_cons_mk (shut_int Tryd.underlying2 w4) (trodAll_cons_mk (shut_string Tryd.underlying9 w5) trodAll_mk0)))))), rfl, bel.frame _, fun h => by cases h⟩

noncomputable def laidWorld (os : Os) : World :=
  { World.holding Tryd.prog os ⟨#[], #[], []⟩ with heap := (World.holding Tryd.prog os ⟨#[], #[], []⟩).heap.modify 0 fun
      | .cells _ t frozen => .cells (u32s kk).toArray t frozen
      | o => o }
theorem laid_met (os : Os) : laidMet Tryd.prog Rows.topGrantedRow.laid ((laidWorld os).forCall (fun _ _ => 0) ⟨#[], #[.agg #[.string ByteArray.empty, .int .i64 0, .int .i64 0], .int .i64 0, .int .i64 0, .int .i64 0, .int .i64 0, .string ByteArray.empty], []⟩).memory :=
  laidMet_of_run' 8 (by kernel_rfl) (by kernel_rfl)
theorem reads (os : Os) {H : Type} (enc : TypeId × Value → H) : ∃ places, DataW.whole enc Tryd.prog ((laidWorld os).forCall (fun _ _ => 0) ⟨#[], #[.agg #[.string ByteArray.empty, .int .i64 0, .int .i64 0], .int .i64 0, .int .i64 0, .int .i64 0, .int .i64 0, .string ByteArray.empty], []⟩).memory Tryd.f10.params.toList Rows.topGrantedSpec.vars false (#[.agg #[.string ByteArray.empty, .int .i64 0, .int .i64 0], .int .i64 0, .int .i64 0, .int .i64 0, .int .i64 0, .string ByteArray.empty] : Array Value).toList 8 = some ([.agg [.lit (.string []), .lit (.int .i64 0), .lit (.int .i64 0)], .lit (.int .i64 0), .lit (.int .i64 0), .lit (.int .i64 0), .lit (.int .i64 0), .lit (.string [])], [], places) :=
  ⟨[], by kernel_rfl⟩

set_option maxRecDepth 100000 in
theorem lifted (os : Os) (started : os.Started) (H : Type) (enc : TypeId × Value → H) (G : Stop.Interp) :
    ReturnsInHanded {} Tryd.checked os 10 .any ((OpenSpec.ofChange Rows.topGrantedSpec).preRow enc Tryd.prog Tryd.f10 Rows.topGrantedRow.domain false Rows.topGrantedRow.laid) (((OpenSpec.ofChange Rows.topGrantedSpec).at G).post enc Tryd.prog Tryd.f10 false true false false) := by
  obtain ⟨places, hx⟩ := reads os enc
  refine returnsInHanded_of_row (C := Tryd.checked) (s := OpenSpec.ofChange Rows.topGrantedSpec) own started (by kernel_rfl) Tryd.func10
    (witness_row_at (enc := enc) (C := Tryd.checked) false (laidWorld os) #[.agg #[.string ByteArray.empty, .int .i64 0, .int .i64 0], .int .i64 0, .int .i64 0, .int .i64 0, .int .i64 0, .string ByteArray.empty] rfl (by kernel_rfl) (by kernel_rfl) (by kernel_rfl)
      (OpenSpec.preRow_of_cond 8 hx (by kernel_rfl) (fun k hk => by cases hk) (by kernel_rfl) (laid_met os))) ?_
  intro W base args ds gs before hval hW _ _ hsz hL _ _
  exact contract H enc W base args ds gs before hval hW hsz hL

theorem said : Rows.TopGrantedSaid :=
  OpenClaim.holds_of_cond 10 Tryd.f10 rfl rfl rfl rfl rfl rfl rfl ⟨rfl, rfl, rfl, rfl, rfl⟩ rfl rfl rfl rfl rfl (by kernel_rfl) Tryd.func10 (by kernel_rfl)
    (of_decide_eq_true (by kernel_rfl)) (by unfold Func.isWrapper; first | (rw [if_pos (by decide +kernel)]; kernel_rfl) | (rw [if_neg (by decide +kernel)]; exact ⟨rfl, rfl⟩))
    (fun os started H enc _ G => by rw [OpenClaim.pre_eq_preRow]; exact lifted os started H enc G)

theorem plain (f : FuncId) (fn : Func) (hf : Tryd.pinned.checked.prog.funcNamed "palaver/palavertop.TopGranted" = some f) (hfn : Tryd.pinned.checked.prog.funcs[f]? = some fn) :
    false = Tryd.pinned.checked.prog.looks [] ∧ ∀ (j : Nat) t, fn.params[j]? = some t → Tryd.pinned.checked.prog.wantsStandIn t = false := by
  obtain rfl : f = 10 := Option.some.inj ((show Tryd.prog.funcNamed "palaver/palavertop.TopGranted" = some 10 by kernel_rfl).symm.trans hf) |>.symm
  obtain rfl : fn = Tryd.f10 := (Option.some.inj (Tryd.func10.symm.trans hfn)).symm
  refine ⟨by kernel_rfl, fun j t ht => ?_⟩
  rw [Tryd.params10] at ht
  have hm : t = 23 ∨ t = 3 ∨ t = 2 ∨ t = 2 ∨ t = 2 ∨ t = 9 := by simpa using Array.mem_of_getElem? ht
  rcases hm with rfl | rfl | rfl | rfl | rfl | rfl
  · exact (show Tryd.prog.wantsStandIn 23 = false by kernel_rfl)
  · exact (show Tryd.prog.wantsStandIn 3 = false by kernel_rfl)
  · exact (show Tryd.prog.wantsStandIn 2 = false by kernel_rfl)
  · exact (show Tryd.prog.wantsStandIn 2 = false by kernel_rfl)
  · exact (show Tryd.prog.wantsStandIn 2 = false by kernel_rfl)
  · exact (show Tryd.prog.wantsStandIn 9 = false by kernel_rfl)

theorem proved : Rows.TopGrantedCardSaid :=
  Claim7.holds_tied_plain_at .later [] _ _ _ _ said (fun _ h => by cases h) (by kernel_rfl) (fun _ h => by cases h) topGranted_row_tie rfl ⟨rfl, rfl⟩ (by kernel_rfl) rfl plain (by kernel_rfl)
end Go.Proofs.YtgfdhgnkanekhaaDoor.topGranted
