
/-
  state: equal lists, equal events; the examples.
-/
import Derived.Test.YtiakfopdohcigaaGreatDoorStP
import Derived.Test.YtiakfopdohcigaaGreatDoorOctAll
namespace Go.Proofs.YtiakfopdohcigaaGreatDoor
set_option maxRecDepth 100000
set_option linter.unusedVariables false
set_option linter.unusedSimpArgs false
open Go.RowKit Rw
open List (getElem_toArray getElem_cons_zero getElem_cons_succ setIfInBounds_toArray set_cons_zero set_cons_succ)

set_option maxHeartbeats 1000000 in
set_option maxRecDepth 20000 in
theorem same01_any (w : World) (v v' : Value) (ss tt : List ByteArray) (hat : StrsAt w v ss) (hat' : StrsAt w v' tt) (hn : ss.length ≤ 140737488351232) (hn' : tt.length ≤ 140737488351232) :
    Calls Tryz.prog 12 #[v, v'] w fun e w' => e = .returned (.bool (sameB ss tt)) ∧ Below w.heap.size w w' := by
  obtain ⟨a, cap, rfl, hc⟩ := hat
  obtain ⟨a', cap', rfl, hc'⟩ := hat'
  obtain ⟨n, hnn⟩ : ∃ n, ss.length = n := ⟨_, rfl⟩
  obtain ⟨n', hnn'⟩ : ∃ n', tt.length = n' := ⟨_, rfl⟩
  obtain ⟨S, hS⟩ : ∃ S, S = sameB ss tt := ⟨_, rfl⟩
  rw [hnn] at hn ⊢
  rw [hnn'] at hn' ⊢
  rw [← hS]
  have HC := hidp hc; clear hc
  have HNN := hidp hnn; clear hnn
  have HC' := hidp hc'; clear hc'
  have HNN' := hidp hnn'; clear hnn'
  have HS := hidp hS; clear hS
  by_cases hl : n = n'
  · subst hl
    have hlb : ((n : Int) != (n : Int)) = false := by simp
    go_enter Tryz.func12, Tryz.ntmps12
    go_wp2
    go_loopw [13] (fun t13 wr => ∃ k : Nat, t13 = .int .i64 k ∧ k ≤ n ∧ (∀ j (h : j < ss.length) (h' : j < tt.length), j < k → ss[j] = tt[j]) ∧ Below w.heap.size w wr) (fun t13 _ => n - (intOf t13).toNat)
    case atStart => exact ⟨0, rfl, by omega, by intro j _ _ h; omega, Below.refl _ _⟩
    case round =>
      obtain ⟨k, rfl, hk, hall, hb⟩ := hrel
      have HALL := hidp hall; clear hall
      by_cases hlt : k < n
      · have hlt1 : k < ss.length := by have := HNN.out; omega
        have hlt2 : k < tt.length := by have := HNN'.out; omega
        obtain ⟨b, off, rfl, hcell⟩ := HC.out k hlt1
        obtain ⟨b', off', rfl, hcell'⟩ := HC'.out k hlt2
        have h1 := (hb.cell (p := ⟨b, off + k, none⟩) (by have := World.block_lt_of_cell? w _ hcell; simpa using this)).trans hcell
        have h2 := (hb.cell (p := ⟨b', off' + k, none⟩) (by have := World.block_lt_of_cell? w _ hcell'; simpa using this)).trans hcell'
        clear hcell hcell'
        have hne := hidp (fun hne => sameB_at (ss := ss) (tt := tt) k hlt1 hlt2 hne)
        obtain ⟨s, hs⟩ : ∃ s, ss[k] = s := ⟨_, rfl⟩
        obtain ⟨t, ht⟩ : ∃ t, tt[k] = t := ⟨_, rfl⟩
        rw [hs] at h1
        rw [ht] at h2
        have hne := hidp (show s ≠ t → sameB ss tt = false from by rw [← hs, ← ht]; exact hne.out)
        have H1 := hidp hs; have H2 := hidp ht; clear hs ht
        have hi0 : (0 : Int) ≤ (k : Int) := by omega
        have hi1 : (k : Int) < (n : Int) := by omega
        by_cases hst : s = t
        · subst hst
          have hB := hidp fun nq => below_drewN hb nq
          go_wp2
          go_quiet (fail)
          go_wp2
          refine ⟨⟨k + 1, by go_num, by omega, fun j h h' hj => ?_, hB.out _⟩, by simp [intOf]; omega⟩
          by_cases hjk : j = k
          · subst hjk; have e1 := H1.out; have e2 := H2.out; rw [e1, e2]
          · exact HALL.out j h h' (by omega)
        · have hne2 := hidp (hne.out hst)
          have ht := toList_no hst
          have hB := hidp fun nq => below_drewN hb nq
          have HST := hidp hst; clear hst
          go_wp2
          go_quiet (fail)
          go_wp2
          go_ret
          exact ⟨by rw [HS.out, hne2.out]; rfl, hB.out _⟩
      · have hfin := hidp (sameB_all (ss := ss) (tt := tt) (by rw [HNN.out, HNN'.out]) fun j h h' => HALL.out j h h' (by have := HNN.out; omega))
        go_wp2
        go_ret
        exact ⟨by rw [HS.out, hfin.out]; rfl, hb⟩
  · have hlb : ((n : Int) != (n' : Int)) = true := by simp; omega
    have hfin := hidp (sameB_len (ss := ss) (tt := tt) (by rw [HNN.out, HNN'.out]; exact hl))
    go_enter Tryz.func12, Tryz.ntmps12
    go_wp2
    go_ret
    exact ⟨by rw [HS.out, hfin.out]; rfl, Below.refl _ _⟩
theorem eqin_ev (W : World) (e : Ev) : (Op.equalIn 10000 25 (.agg e.row.toArray) (.agg e.row.toArray)).run Tryz.prog W = .ok true W := by
  have ht : Tryz.prog.underlying 25 = some (.struct (Tryz.prog.fieldsOf 25)) := by kernel_rfl
  have hp : Tryz.prog.stoodInHeld 25 = false := by kernel_rfl
  have hu := Tryz.underlying25
  have hus := Tryz.underlying9
  have hui := Tryz.underlying2
  have huk := Tryz.underlying23
  unfold Ev.row
  rw [run_equalIn_agg W 9999 _ _ _ ht hp]
  unfold Program.fieldsOf
  rw [hu]
  go_simp
theorem eq_ev (W : World) (e : Ev) : (binOp .eql 25 (.agg e.row.toArray) (.agg e.row.toArray)).run Tryz.prog W = .ok (.bool true) W := by
  rw [run_eql_struct, eqin_ev]; rfl
section
variable {P : Program} {ST T k by_ : Nat} {z : List Value} {ops : Array Oper} {rest : List Oper} {o : Oper} {a : Act} {w w0 : World} {N : Nat} {L : List Mm.Bx} {Q : Exit → Act → World → Prop}
theorem wpL_idxG (R : RowTy P ST T k by_ z) (hw : Region.wanted o (yielded ops a.tmps) = true) (x y : Operand) (ho : o.op = .indexAddr ST x y) (B off n c i : Nat) (hx : a.eval x = .slice (some ⟨B, off, none⟩) n c) (hy : a.eval y = .int .i64 (i : Int)) (hi : i < n)
    (h : wpList P ops Q rest (a.put o.dst (.pointer (some ⟨B, off + k * i, none⟩))) w) : wpList P ops Q (o :: rest) a w := by
  refine wpList_step fun K hK => ?_
  rw [if_pos hw]
  have := hK _ _ h
  unfold Oper.wp execOp
  simp only [ho, hx, hy, Sem.run_bind, run_idxR R B off n c i hi, Result.andThen_ok]
  exact this
theorem wpL_oneG (H : Hid (Mm.M N w0 w L)) (hw : Region.wanted o (yielded ops a.tmps) = true) (x : Operand) (s : ByteArray) (ho : o.op = .buildSlice 31 1 #[(0, x)]) (hx : a.eval x = .string s)
    (h : ∀ b W, Hid (Mm.M N w0 W (⟨b, 9, [.string s]⟩ :: L)) → Rt.NewAt w W b 9 [.string s] → wpList Tryz.prog ops Q rest (a.put o.dst (.slice (some ⟨b, 0, none⟩) 1 1)) W) : wpList Tryz.prog ops Q (o :: rest) a w := by
  refine wpList_step fun K hK => ?_
  rw [if_pos hw]
  have n := Rt.NewAt.mk' w 9 [.string s]
  have := hK _ _ (h _ _ (hidp (H.out.new n)) n)
  unfold Oper.wp execOp
  simp only [ho, List.map_toArray, List.map_cons, List.map_nil, hx, Sem.run_bind, run_oneS s w, Result.andThen_ok]
  exact this
theorem wpL_buildD (d : Nat) (hd : o.dst = some d) (hw : Region.wanted o (yielded ops a.tmps) = true) (T : TypeId) (parts : Array (Nat × Operand)) (ho : o.op = .build T parts) (xs : List Value)
    (hb : P.built T (parts.map fun (i, x) => (i, a.eval x)).toList = some xs.toArray)
    (h : wpList P ops Q rest (a.put o.dst (.agg xs.toArray)) w) : wpList P ops Q (o :: rest) a w := Rt.wpL_build hw T parts ho xs hb h
end
/-- The cells do not lie in this block. -/
def farP (v : Value) (b : Nat) : Prop := ∀ B o n c, v = Value.slice (some ⟨B, o, none⟩) n c → B ≠ b
theorem CsAt.farQ {w : World} {v : Value} {cs : List Ce} {b : Nat} (h : CsAt w v cs) (hb : w.heap.size ≤ b) : farP v b := fun B o n c e => by have := h.low B o n c e; omega
theorem CsAt.stpP {w W : World} {v : Value} {cs : List Ce} {b : Nat} (h : CsAt w v cs) (st : Rt.Stp b w W) (hne : farP v b) : CsAt W v cs := by
  refine ⟨⟨h.rs.1, ?_⟩, h.ok, h.len⟩
  rcases h.rs.2 with h0 | ⟨B, o, c, e, hc, hB, hr⟩
  · exact .inl h0
  · refine .inr ⟨B, o, c, e, hc, by rw [st.size]; exact hB, fun j u hj => ?_⟩
    have hcell : W.cell? ⟨B, o + j, none⟩ = w.cell? ⟨B, o + j, none⟩ := World.cell?_of_block (w := w) (st.other B (hne _ _ _ _ e))
    rw [hcell]; exact hr j u hj
theorem toList_litP (l : List UInt8) : (⟨l.toArray⟩ : ByteArray).toList = l := by rw [ByteArray.toList_eq]
def yE : Ev := ⟨(⟨#[33, 104, 97, 108, 108, 58, 48]⟩ : ByteArray), (⟨#[64, 97, 110, 110, 58, 48]⟩ : ByteArray), 2, (⟨#[64, 98, 111, 98, 58, 49]⟩ : ByteArray), (⟨#[106, 111, 105, 110]⟩ : ByteArray), 0⟩
def yF : Ev := ⟨(⟨#[33, 104, 97, 108, 108, 58, 48]⟩ : ByteArray), (⟨#[64, 97, 110, 110, 58, 48]⟩ : ByteArray), 1, (⟨#[]⟩ : ByteArray), (⟨#[]⟩ : ByteArray), 0⟩
def yM : Ev := ⟨(⟨#[33, 104, 97, 108, 108, 58, 48]⟩ : ByteArray), (⟨#[64, 97, 110, 110, 58, 48]⟩ : ByteArray), 6, (⟨#[]⟩ : ByteArray), (⟨#[]⟩ : ByteArray), 0⟩
def yS1 : List Ce := [newC yE]
def yS2 : List Ce := [newC yF, newC yE]
theorem y_s1 : setV [] yE = yS1 := by kernel_rfl
theorem y_s2 : setV yS1 yF = yS2 := by kernel_rfl
theorem y_s3 : setV yS2 yM = yS2 := by kernel_rfl
theorem y_e1 : setE [] yE = 0 := by kernel_rfl
theorem y_e2 : setE yS1 yF = 0 := by kernel_rfl
theorem y_e3 : setE yS2 yM = 2 := by kernel_rfl
theorem y_g1 : geV yS2 2 (⟨#[64, 98, 111, 98, 58, 49]⟩ : ByteArray) = yE := by kernel_rfl
theorem y_g2 : geE yS2 2 (⟨#[64, 98, 111, 98, 58, 49]⟩ : ByteArray) = 0 := by kernel_rfl
theorem y_h1 : geV yS2 2 (⟨#[64, 97, 110, 110, 58, 48]⟩ : ByteArray) = zEv := by kernel_rfl
theorem y_h2 : geE yS2 2 (⟨#[64, 97, 110, 110, 58, 48]⟩ : ByteArray) = 3 := by kernel_rfl
theorem y_m1 : memS yS2 (⟨#[64, 98, 111, 98, 58, 49]⟩ : ByteArray) = (⟨#[106, 111, 105, 110]⟩ : ByteArray) := by kernel_rfl
theorem y_m2 : memS yS2 (⟨#[64, 97, 110, 110, 58, 48]⟩ : ByteArray) = wLeave := by kernel_rfl
theorem y_k : kyL yS2 2 = [(⟨#[64, 98, 111, 98, 58, 49]⟩ : ByteArray)] := by kernel_rfl
theorem y_c : ckS yS2 = 0 := by kernel_rfl
theorem okyE : yE.ok := ⟨by decide, by decide, by decide, by decide, by decide⟩
theorem okyF : yF.ok := ⟨by decide, by decide, by decide, by decide, by decide⟩
theorem okyM : yM.ok := ⟨by decide, by decide, by decide, by decide, by decide⟩
theorem ys1 (W : World) (v : Value) (hv : CsAt W v []) (h : IT W) : Calls Tryz.prog 57 #[v, .agg yE.row.toArray] W fun x w' => ∃ v', x = .returned (.tuple #[v', .int .i64 0]) ∧ CsAt w' v' yS1 ∧ Below W.heap.size W w' := by
  have := set_any W v [] hv yE okyE h; rw [y_s1, y_e1] at this; exact this
theorem ys2 (W : World) (v : Value) (hv : CsAt W v yS1) (h : IT W) : Calls Tryz.prog 57 #[v, .agg yF.row.toArray] W fun x w' => ∃ v', x = .returned (.tuple #[v', .int .i64 0]) ∧ CsAt w' v' yS2 ∧ Below W.heap.size W w' := by
  have := set_any W v yS1 hv yF okyF h; rw [y_s2, y_e2] at this; exact this
theorem ys3 (W : World) (v : Value) (hv : CsAt W v yS2) (h : IT W) : Calls Tryz.prog 57 #[v, .agg yM.row.toArray] W fun x w' => ∃ v', x = .returned (.tuple #[v', .int .i64 2]) ∧ CsAt w' v' yS2 ∧ Below W.heap.size W w' := by
  have := set_any W v yS2 hv yM okyM h; rw [y_s3, y_e3] at this; exact this
theorem yg1 (W : World) (v : Value) (hv : CsAt W v yS2) (h : IT W) : Calls Tryz.prog 9 #[v, .int .u8 2, .string (⟨#[64, 98, 111, 98, 58, 49]⟩ : ByteArray)] W fun x w' => x = .returned (.tuple #[.agg yE.row.toArray, .int .i64 0]) ∧ Below W.heap.size W w' := by
  have := get_any W v yS2 hv 2 (⟨#[64, 98, 111, 98, 58, 49]⟩ : ByteArray) h; rw [y_g1, y_g2] at this; exact this
theorem yg2 (W : World) (v : Value) (hv : CsAt W v yS2) (h : IT W) : Calls Tryz.prog 9 #[v, .int .u8 2, .string (⟨#[64, 97, 110, 110, 58, 48]⟩ : ByteArray)] W fun x w' => x = .returned (.tuple #[.agg zEv.row.toArray, .int .i64 3]) ∧ Below W.heap.size W w' := by
  have := get_any W v yS2 hv 2 (⟨#[64, 97, 110, 110, 58, 48]⟩ : ByteArray) h; rw [y_h1, y_h2] at this; exact this
theorem ym1 (W : World) (v : Value) (hv : CsAt W v yS2) : Calls Tryz.prog 15 #[v, .string (⟨#[64, 98, 111, 98, 58, 49]⟩ : ByteArray)] W fun x w' => x = .returned (.string (⟨#[106, 111, 105, 110]⟩ : ByteArray)) ∧ Below W.heap.size W w' := by
  have := mem_any W v yS2 hv (⟨#[64, 98, 111, 98, 58, 49]⟩ : ByteArray); rw [y_m1] at this; exact this
theorem ym2 (W : World) (v : Value) (hv : CsAt W v yS2) : Calls Tryz.prog 15 #[v, .string (⟨#[64, 97, 110, 110, 58, 48]⟩ : ByteArray)] W fun x w' => x = .returned (.string wLeave) ∧ Below W.heap.size W w' := by
  have := mem_any W v yS2 hv (⟨#[64, 97, 110, 110, 58, 48]⟩ : ByteArray); rw [y_m2] at this; exact this
theorem yk (W : World) (v : Value) (hv : CsAt W v yS2) : Calls Tryz.prog 13 #[v, .int .u8 2] W fun x w' => ∃ v', x = .returned v' ∧ StrsAt w' v' [(⟨#[64, 98, 111, 98, 58, 49]⟩ : ByteArray)] ∧ Below W.heap.size W w' := by
  have := keys_any W v yS2 hv 2 (by decide); rw [y_k] at this; exact this
theorem yc (W : World) (v : Value) (hv : CsAt W v yS2) (h : IT W) : Calls Tryz.prog 53 #[v] W fun x w' => x = .returned (.int .i64 0) ∧ Below W.heap.size W w' := by
  have := stCheck_any W v yS2 hv h; rw [y_c] at this; exact this
theorem y01 (W : World) (v v' : Value) (h : StrsAt W v [(⟨#[64, 98, 111, 98, 58, 49]⟩ : ByteArray)]) (h' : StrsAt W v' [(⟨#[64, 98, 111, 98, 58, 49]⟩ : ByteArray)]) : Calls Tryz.prog 12 #[v, v'] W fun x w' => x = .returned (.bool true) ∧ Below W.heap.size W w' := by
  have := same01_any W v v' [(⟨#[64, 98, 111, 98, 58, 49]⟩ : ByteArray)] [(⟨#[64, 98, 111, 98, 58, 49]⟩ : ByteArray)] h h' (by simp) (by simp); rw [show sameB [(⟨#[64, 98, 111, 98, 58, 49]⟩ : ByteArray)] [(⟨#[64, 98, 111, 98, 58, 49]⟩ : ByteArray)] = true from by simp [sameB]] at this; exact this
theorem cs_some {w : World} {a : Option Addr} {n c : Nat} {cs : List Ce} (h : CsAt w (.slice a n c) cs) (hl : 0 < cs.length) : ∃ BK off, a = some ⟨BK, off, none⟩ := by
  obtain ⟨B, o, c', e, -⟩ := h.get hl
  simp only [Value.slice.injEq] at e
  exact ⟨B, o, e.1⟩
theorem cs_kind {w : World} {B o n c : Nat} {cs : List Ce} (h : CsAt w (.slice (some ⟨B, o, none⟩) n c) cs) (hl : 0 < cs.length) : w.cell? ⟨B, o + 8 * 0, none⟩ = some (.int .u8 ((cs[0]).k : Int)) := by
  obtain ⟨B', o', c', e, -, -, hr⟩ := h.get hl
  simp only [Value.slice.injEq, Option.some.injEq, Addr.mk.injEq] at e
  obtain ⟨⟨rfl, rfl, -⟩, -, -⟩ := e
  exact hr 0 hl 0 _ rfl
theorem yk0 (W : World) (B o n c : Nat) (h : CsAt W (.slice (some ⟨B, o, none⟩) n c) yS2) : W.cell? ⟨B, o, none⟩ = some (.int .u8 1) := cs_kind h (by decide)
theorem strs_one {w : World} {b : Nat} {s : ByteArray} (h : Arr w b 9 [.string s]) : StrsAt w (.slice (some ⟨b, 0, none⟩) 1 1) [s] :=
  ⟨some ⟨b, 0, none⟩, 1, rfl, fun k hk => by
    have : k = 0 := by simpa using hk
    subst this
    exact ⟨b, 0, rfl, h.cell 0 (by simp)⟩⟩
set_option maxHeartbeats 32000000 in
theorem lives14_any (w : World) (hI : IT w) : Calls Tryz.prog 11 #[] w fun x w' => x = .returned (.bool true) ∧ Below w.heap.size w w' := by
  have HI := hidp hI
  clear hI
  have s1 := hidp ys1; have s2 := hidp ys2; have s3 := hidp ys3; have g1 := hidp yg1; have g2 := hidp yg2; have m1 := hidp ym1; have m2 := hidp ym2; have kk := hidp yk; have cc := hidp yc; have k01 := hidp y01; have hk0 := hidp yk0
  have hlen := hidp (show yS2.length = 2 from rfl)
  obtain ⟨e, he0⟩ : ∃ e, e = yE := ⟨_, rfl⟩
  obtain ⟨f, hf0⟩ : ∃ e, e = yF := ⟨_, rfl⟩
  obtain ⟨m, hm0⟩ : ∃ e, e = yM := ⟨_, rfl⟩
  rw [← he0] at s1 g1
  rw [← hf0] at s2
  rw [← hm0] at s3
  have he := hidp he0; have hf := hidp hf0; have hm := hidp hm0
  have q1 := fun W => eq_ev W e
  have q2 := fun W => eqin_ev W e
  have hle : (wLeave.toList == ([108, 101, 97, 118, 101] : List UInt8)) = true := by rw [show wLeave.toList = ([108, 101, 97, 118, 101] : List UInt8) from toList_litP _]; rfl
  clear he0 hf0 hm0
  generalize yS1 = z1 at *
  generalize wLeave = wl at *
  have H := hidp (Mm.M.nil w)
  go_enter Tryz.func11, Tryz.ntmps11
  have tk0 := hidp trivial
  go_wp2_with (first | (clear tk0; (refine wpL_buildD 12 rfl rfl 25 _ rfl e.row (by rw [he.out]; kernel_rfl) ?_); (try simp only [Act.put, setIfInBounds_toArray, set_cons_zero, set_cons_succ]); have tk1 := hidp trivial) | (clear tk1; (refine Mm.new rtE H (some 1) rfl rfl rfl ?_; clear H; intro b1 _ H nw; have hb := nw.below; clear hb nw); (try simp only [Act.put, setIfInBounds_toArray, set_cons_zero, set_cons_succ]); have tk2 := hidp trivial) | (clear tk2; (refine Mm.put0 rtE H rfl (.tmp 1) (.tmp 12) e.row rfl rfl rfl rfl (Ev.one _) rfl ?_; intro _ H2 st; clear st H; have H := H2; clear H2); (try simp only [Act.put, setIfInBounds_toArray, set_cons_zero, set_cons_succ]); have tk3 := hidp trivial) | (clear tk3; (refine wpL_buildD 13 rfl rfl 25 _ rfl f.row (by rw [hf.out]; kernel_rfl) ?_); (try simp only [Act.put, setIfInBounds_toArray, set_cons_zero, set_cons_succ]); have tk4 := hidp trivial) | (clear tk4; (refine Mm.new rtE H (some 2) rfl rfl rfl ?_; clear H; intro b2 _ H nw; have hb := nw.below; clear hb nw); (try simp only [Act.put, setIfInBounds_toArray, set_cons_zero, set_cons_succ]); have tk5 := hidp trivial) | (clear tk5; (refine Mm.put0 rtE H rfl (.tmp 2) (.tmp 13) f.row rfl rfl rfl rfl (Ev.one _) rfl ?_; intro _ H2 st; clear st H; have H := H2; clear H2); (try simp only [Act.put, setIfInBounds_toArray, set_cons_zero, set_cons_succ]); have tk6 := hidp trivial) | (clear tk6; (refine Mm.get1 rtE H rfl (.tmp 1) rfl rfl rfl ?_); (try simp only [Act.put, setIfInBounds_toArray, set_cons_zero, set_cons_succ]); have tk7 := hidp trivial) | (clear tk7; (go_at_call 57; refine (s1.out _ _ (CsAt.nil _) (HI.out.below H.out.below (Nat.le_refl _))).mono ?_; rintro x _ ⟨v1, rfl, hcs, hb⟩; obtain ⟨p1, q1, rfl⟩ := hcs.form; replace H := hidp (H.out.call hb); have HS := hidp hcs; clear hcs hb s1); (try simp only [Act.put, setIfInBounds_toArray, set_cons_zero, set_cons_succ]); have tk8 := hidp trivial) | (clear tk8; (refine Mm.get0 rtE H rfl (.tmp 2) rfl rfl rfl ?_); (try simp only [Act.put, setIfInBounds_toArray, set_cons_zero, set_cons_succ]); have tk9 := hidp trivial) | (clear tk9; (go_at_call 57; refine (s2.out _ _ HS.out (HI.out.below H.out.below (Nat.le_refl _))).mono ?_; rintro x _ ⟨v2, rfl, hcs, hb⟩; obtain ⟨p2, q2, rfl⟩ := hcs.form; rw [hlen.out] at hcs ⊢; replace H := hidp (H.out.call hb); clear HS; have HS := hidp hcs; clear hcs hb s2); (try simp only [Act.put, setIfInBounds_toArray, set_cons_zero, set_cons_succ]); have tk10 := hidp trivial) | (clear tk10; (go_at_call 9; refine (g1.out _ _ HS.out (HI.out.below H.out.below (Nat.le_refl _))).mono ?_; rintro e _ ⟨rfl, hb⟩; replace H := hidp (H.out.call hb); clear g1; replace HS := hidp (HS.out.to hb); clear hb); (try simp only [Act.put, setIfInBounds_toArray, set_cons_zero, set_cons_succ]); have tk11 := hidp trivial) | (clear tk11; (refine Mm.new rtE H (some 6) rfl rfl rfl ?_; clear H; intro b6 _ H nw; have hb := nw.below; have HF := hidp (CsAt.farQ HS.out nw.le); replace HS := hidp (HS.out.to hb); clear hb nw); (try simp only [Act.put, setIfInBounds_toArray, set_cons_zero, set_cons_succ]); have tk12 := hidp trivial) | (clear tk12; (refine Mm.put0 rtE H rfl (.tmp 6) (.tmp 28) e.row rfl rfl rfl rfl (Ev.one _) rfl ?_; intro _ H2 st; replace HS := hidp (HS.out.stpP st HF.out); clear st H; have H := H2; clear H2); (try simp only [Act.put, setIfInBounds_toArray, set_cons_zero, set_cons_succ]); have tk13 := hidp trivial) | (clear tk13; (go_at_call 9; refine (g2.out _ _ HS.out (HI.out.below H.out.below (Nat.le_refl _))).mono ?_; rintro e _ ⟨rfl, hb⟩; replace H := hidp (H.out.call hb); clear g2; replace HS := hidp (HS.out.to hb); clear hb); (try simp only [Act.put, setIfInBounds_toArray, set_cons_zero, set_cons_succ]); have tk14 := hidp trivial) | (clear tk14; (refine Mm.new rtE H (some 8) rfl rfl rfl ?_; clear H; intro b8 _ H nw; have hb := nw.below; have HF := hidp (CsAt.farQ HS.out nw.le); replace HS := hidp (HS.out.to hb); clear hb nw); (try simp only [Act.put, setIfInBounds_toArray, set_cons_zero, set_cons_succ]); have tk15 := hidp trivial) | (clear tk15; (refine Mm.put0 rtE H rfl (.tmp 8) (.tmp 33) zEv.row rfl rfl rfl rfl (Ev.one _) rfl ?_; intro _ H2 st; replace HS := hidp (HS.out.stpP st HF.out); clear st H; have H := H2; clear H2); (try simp only [Act.put, setIfInBounds_toArray, set_cons_zero, set_cons_succ]); have tk16 := hidp trivial) | (clear tk16; (refine wpL_buildD 37 rfl rfl 25 _ rfl m.row (by rw [hm.out]; kernel_rfl) ?_); (try simp only [Act.put, setIfInBounds_toArray, set_cons_zero, set_cons_succ]); have tk17 := hidp trivial) | (clear tk17; (go_at_call 57; refine (s3.out _ _ HS.out (HI.out.below H.out.below (Nat.le_refl _))).mono ?_; rintro x _ ⟨v3, rfl, hcs, hb⟩; obtain ⟨p3, q3, rfl⟩ := hcs.form; replace H := hidp (H.out.call hb); replace HS := hidp (HS.out.to hb); clear hcs hb s3); (try simp only [Act.put, setIfInBounds_toArray, set_cons_zero, set_cons_succ]); have tk18 := hidp trivial) | (clear tk18; (obtain ⟨BK, off, hBK⟩ : ∃ BK off, p2 = some ⟨BK, off, none⟩ := cs_some HS.out (by decide); subst hBK; refine wpL_idxG tyC rfl (.tmp 51) (.const (.int .i64 0)) rfl BK off 2 q2 0 rfl rfl (by omega) ?_); (try simp only [Act.put, setIfInBounds_toArray, set_cons_zero, set_cons_succ]); have tk19 := hidp trivial) | (clear tk19; (refine Mm.ldc naK rfl (.tmp 53) ⟨BK, off, none⟩ (.int .u8 1) rfl rfl (hk0.out _ _ _ _ _ HS.out) ?_); (try simp only [Act.put, setIfInBounds_toArray, set_cons_zero, set_cons_succ]); have tk20 := hidp trivial) | (clear tk20; (refine Mm.get1 rtE H rfl (.tmp 6) rfl rfl rfl ?_); (try simp only [Act.put, setIfInBounds_toArray, set_cons_zero, set_cons_succ]); have tk21 := hidp trivial) | (clear tk21; (refine Mm.get3 rtE H rfl (.tmp 1) rfl rfl rfl ?_); (try simp only [Act.put, setIfInBounds_toArray, set_cons_zero, set_cons_succ]); have tk22 := hidp trivial) | (clear tk22; (go_at_call 15; refine (m1.out _ _ HS.out).mono ?_; rintro e _ ⟨rfl, hb⟩; replace H := hidp (H.out.call hb); clear m1; replace HS := hidp (HS.out.to hb); clear hb); (try simp only [Act.put, setIfInBounds_toArray, set_cons_zero, set_cons_succ]); have tk23 := hidp trivial) | (clear tk23; (go_at_call 15; refine (m2.out _ _ HS.out).mono ?_; rintro e _ ⟨rfl, hb⟩; replace H := hidp (H.out.call hb); clear m2; replace HS := hidp (HS.out.to hb); clear hb); (try simp only [Act.put, setIfInBounds_toArray, set_cons_zero, set_cons_succ]); have tk24 := hidp trivial) | (clear tk24; (go_at_call 13; refine (kk.out _ _ HS.out).mono ?_; rintro x _ ⟨v4, rfl, hks, hb⟩; replace H := hidp (H.out.call hb); replace HS := hidp (HS.out.to hb); have HK := hidp hks; clear hks hb kk); (try simp only [Act.put, setIfInBounds_toArray, set_cons_zero, set_cons_succ]); have tk25 := hidp trivial) | (clear tk25; (refine wpL_oneG H rfl (.const (.string (⟨#[64, 98, 111, 98, 58, 49]⟩ : ByteArray))) (⟨#[64, 98, 111, 98, 58, 49]⟩ : ByteArray) rfl rfl ?_; clear H; intro b87 _ H nw; replace HS := hidp (HS.out.to nw.below); replace HK := hidp (HK.out.below nw.below (Nat.le_refl _)); clear nw; have HK2 := hidp (strs_one H.out.at0)); (try simp only [Act.put, setIfInBounds_toArray, set_cons_zero, set_cons_succ]); have tk26 := hidp trivial) | (clear tk26; (go_at_call 12; refine (k01.out _ _ _ HK.out HK2.out).mono ?_; rintro x _ ⟨rfl, hb⟩; replace H := hidp (H.out.call hb); replace HS := hidp (HS.out.to hb); clear hb k01 HK HK2); (try simp only [Act.put, setIfInBounds_toArray, set_cons_zero, set_cons_succ]); have tk27 := hidp trivial) | (clear tk27; (go_at_call 53; refine (cc.out _ _ HS.out (HI.out.below H.out.below (Nat.le_refl _))).mono ?_; rintro e _ ⟨rfl, hb⟩; replace H := hidp (H.out.call hb); clear cc; replace HS := hidp (HS.out.to hb); clear hb); (try simp only [Act.put, setIfInBounds_toArray, set_cons_zero, set_cons_succ]); have tk28 := hidp trivial))
  go_ret
  exact ⟨rfl, H.out.below⟩
end Go.Proofs.YtiakfopdohcigaaGreatDoor
