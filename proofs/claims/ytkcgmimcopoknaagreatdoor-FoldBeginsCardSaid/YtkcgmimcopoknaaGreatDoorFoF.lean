
/-
  fold: Servers of one, the examples.
-/
import Derived.Test.YtkcgmimcopoknaaGreatDoorFoE
namespace Go.Proofs.YtkcgmimcopoknaaGreatDoor
set_option maxRecDepth 100000
set_option linter.unusedVariables false
set_option linter.unusedSimpArgs false
open Go.RowKit Rw
open List (getElem_toArray getElem_cons_zero getElem_cons_succ setIfInBounds_toArray set_cons_zero set_cons_succ)

set_option maxHeartbeats 4000000 in
theorem isort_one (w : World) (a : Option Addr) (c : Nat) : Calls Tryz.prog 120 #[.slice a 1 c, .int .i64 0, .int .i64 1] w fun e w' => (∃ x0, e = .returned x0) ∧ w' = w := by
  go_enter Tryz.func120, Tryz.ntmps120
  go_wp2_with fail
  go_loopw [6] (fun t6 wr => t6 = .int .i64 1 ∧ w = wr) (fun _ _ => 0)
  case atStart => exact ⟨rfl, rfl⟩
  case round =>
    obtain ⟨rfl, rfl⟩ := hrel
    go_wp2_with fail
    exact bodyPost_end (results_none rfl _ _ _) rfl ⟨⟨_, rfl⟩, rfl⟩
set_option maxHeartbeats 8000000 in
theorem pdq_one (w : World) (a : Option Addr) (c : Nat) (l : Int) : Calls Tryz.prog 95 #[.slice a 1 c, .int .i64 0, .int .i64 1, .int .i64 l] w fun e w' => (∃ x0, e = .returned x0) ∧ w' = w := by
  have ki := hidp (fun W => isort_one W a c)
  go_enter Tryz.func95, Tryz.ntmps95
  go_wp2_with fail
  go_loopw [1, 2] (fun t1 t2 wr => t1 = .int .i64 0 ∧ t2 = .int .i64 1 ∧ w = wr) (fun _ _ _ => 0)
  case atStart => exact ⟨rfl, rfl, rfl⟩
  case round =>
    obtain ⟨rfl, rfl, rfl⟩ := hrel
    go_wp2_with (first | (go_at_call 120; refine (ki.out _).mono ?_; rintro e _ ⟨⟨x0, rfl⟩, rfl⟩))
    refine bodyPost_ret (results_none rfl _ _ _) rfl ?_
    exact ⟨⟨_, rfl⟩, rfl⟩
set_option maxHeartbeats 4000000 in
theorem blen_one (w : World) : Calls Tryz.prog 96 #[.int .u64 1] w fun e w' => (∃ l, e = .returned (.int .i64 l)) ∧ w' = w := by
  have kb := hidp (fun W => Tryz.bits_Len64 1 W (by decide) (by decide))
  go_enter Tryz.func96, Tryz.ntmps96
  go_wp2_with (first | (go_at_call 130; refine (kb.out _).mono ?_; rintro e _ ⟨rfl, rfl⟩))
  go_ret
  exact ⟨⟨_, rfl⟩, rfl⟩
set_option maxHeartbeats 4000000 in
theorem sort_one (w : World) (a : Option Addr) (c : Nat) : Calls Tryz.prog 73 #[.slice a 1 c] w fun e w' => (∃ x0, e = .returned x0) ∧ w' = w := by
  have kb := hidp (fun W => blen_one W); have kp := hidp (fun W l => pdq_one W a c l)
  go_enter Tryz.func73, Tryz.ntmps73
  go_wp2_with (first | (go_at_call 96; refine (kb.out _).mono ?_; rintro e _ ⟨⟨l, rfl⟩, rfl⟩) | (go_at_call 95; refine (kp.out _ _).mono ?_; rintro e _ ⟨⟨x0, rfl⟩, rfl⟩))
  exact bodyPost_end (results_none rfl _ _ _) rfl ⟨⟨_, rfl⟩, rfl⟩
set_option maxHeartbeats 4000000 in
theorem compact_one (w : World) (a : Option Addr) (c : Nat) : Calls Tryz.prog 74 #[.slice a 1 c] w fun e w' => e = .returned (.slice a 1 c) ∧ w' = w := by
  go_enter Tryz.func74, Tryz.ntmps74
  go_wp2_with fail
  go_ret
  exact ⟨rfl, rfl⟩

set_option maxHeartbeats 8000000 in
theorem servers_one (w : World) (v : Value) (cs : List Ce) (hv : CsAt w v cs) (hn : cs.length ≤ 1000) (u : ByteArray) (mn : Nat) (hj : joL cs = [u]) (hu : who 1 u = some mn) (hus : u.size ≤ 281474976710656) (h ep k : Int) (hP : PT w) :
    Calls Tryz.prog 38 #[.agg #[v, .int .i64 h, .int .i64 ep, .int .i64 k]] w fun x w' => ∃ g c, x = .returned (.slice (some ⟨g, 0, none⟩) 1 c) ∧ w'.cell? ⟨g, 0, none⟩ = some (.int .i64 (mn : Int)) ∧ Below w.heap.size w w' := by
  have HV := hidp hv; have HP := hidp hP
  have kj := hidp (fun W h1 => joined_any W v cs h1 hn h ep k)
  rw [hj] at kj
  have ku := hidp (fun W h1 => user_any W u hus h1)
  rw [hu] at ku
  simp only [whoV] at ku
  have ks := hidp (fun W a c => sort_one W a c); have kc := hidp (fun W a c => compact_one W a c)
  obtain ⟨m, hm⟩ : ∃ z : Int, (mn : Int) = z := ⟨_, rfl⟩
  rw [hm] at ku ⊢
  obtain ⟨a0, c0, hv0⟩ := hv.form
  obtain ⟨n, hnn⟩ : ∃ n, cs.length = n := ⟨_, rfl⟩
  rw [hnn] at hv0
  subst hv0
  clear hv hnn hP hm hj hu hn
  have H := hidp (Mm.M.nil w)
  go_enter Tryz.func38, Tryz.ntmps38
  go_wp2_with (first | (refine Mm.box 35 H rfl (.tmp 0) rfl [.slice a0 n c0, .int .i64 h, .int .i64 ep, .int .i64 k] rfl ?_; clear H; intro b1 _ H nw; have hb := nw.below; clear hb nw) | (refine wpL_noneI rfl rfl ?_; intro b8 _ nw; have HO := hidp (OwnV.empty nw.arr (Nat.le_trans H.out.le nw.le)); replace H := hidp (H.out.call nw.below); clear nw) | (refine Mm.get0 rtR H rfl (.tmp 1) rfl rfl rfl ?_) | (go_at_call 21; refine (kj.out _ (HV.out.to H.out.below)).mono ?_; rintro x _ ⟨v1, rfl, hs, hb⟩; obtain ⟨a1, c1, rfl, hcell⟩ := hs; have HS := hidp (show StrsAt _ (.slice a1 1 c1) [u] from ⟨a1, c1, rfl, hcell⟩); replace H := hidp (H.out.call hb); replace HO := hidp (HO.out.kept hb (Nat.le_refl _)); clear hcell hb kj))
  go_loopw [3, 12] (fun t3 t12 wr => ∃ i : Nat, t12 = .int .i64 (i : Int) ∧ i ≤ 1 ∧ OwnV wr w.heap.size 3 t3 (([.int .i64 m] : List Value).take i) ∧ (i = 0 → StrsAt wr (.slice a1 1 c1) [u]) ∧ Mm.M w.heap.size w wr []) (fun _ t12 _ => 1 - (intOf t12).toNat)
  case atStart => exact ⟨0, rfl, by omega, HO.out, fun _ => HS.out, H.out.tail⟩
  case round =>
    clear H HO HS
    obtain ⟨i, rfl, hi, hO, hS, hM⟩ := hrel
    have H := hidp hM; have HO := hidp hO; have HS := hidp hS
    clear hM hO hS
    by_cases hlt : i < 1
    · have i0 : i = 0 := by omega
      subst i0
      obtain ⟨a2, c2, e2, hcell⟩ := HS.out rfl
      simp only [Value.slice.injEq] at e2
      obtain ⟨rfl, -, rfl⟩ := e2
      obtain ⟨b, off, rfl, h1⟩ := hcell 0 (by simp)
      simp only [List.getElem_cons_zero, Nat.add_zero] at h1
      clear hcell
      simp only [List.take_zero] at HO
      go_wp2_with (first | (go_at_call 60; refine (ku.out _ (HP.out.1.below H.out.below (Nat.le_refl _))).mono ?_; rintro e _ ⟨rfl, hb⟩; replace H := hidp (H.out.call hb); replace HO := hidp (HO.out.kept hb (Nat.le_refl _)); clear hb) | (refine wpL_oneI H rfl (.tmp 23) m rfl rfl ?_; clear H; intro b24 _ H nw; replace HO := hidp (HO.out.kept nw.below (Nat.le_refl _)); clear nw) | (at_builtin; (refine wpL_appI rfl (.tmp 22) (.tmp 24) rfl w.heap.size _ _ b24 _ (.int .i64 m) rfl rfl HO.out H.out.at0 rfl (by simp) H.out.le ?_; intro v9 w9 ho9 hb9; have HB9 := hidp (H.out.below.trans hb9); have HO9 := hidp ho9; clear ho9 hb9 HO)))
      exact ⟨⟨1, by go_num, by omega, HO9.out, (fun h => absurd h (by decide)), ⟨HB9.out, HB9.out.size, by simp, List.Pairwise.nil, by simp⟩⟩, by simp [intOf]⟩
    · have i1 : i = 1 := by omega
      subst i1
      simp only [List.take_succ_cons, List.take_nil] at HO
      have h2 := HO.out.2
      rcases h2 with ⟨-, h0⟩ | ⟨g, cap, cur, rfl, hB, hg, r⟩
      · cases h0
      · have hc := World.ownsRow.cells HO.out (g := g) rfl 0 (.int .i64 m) rfl
        have hc2 : wr.cell? ⟨g, 0, none⟩ = some (.int .i64 m) := by simpa [Addr.add] using hc
        have HC := hidp hc2
        clear hc hc2 hB hg r
        go_wp2_with (first | (go_at_call 73; refine (ks.out _ _ _).mono ?_; rintro e _ ⟨⟨x0, rfl⟩, rfl⟩; clear ks) | (go_at_call 74; refine (kc.out _ _ _).mono ?_; rintro e _ ⟨rfl, rfl⟩; clear kc))
        go_ret
        exact ⟨g, cap, rfl, HC.out, H.out.below⟩
set_option maxHeartbeats 8000000 in
theorem same04_one (w : World) (b b' c c' : Nat) (m : Int) (h1 : w.cell? ⟨b, 0, none⟩ = some (.int .i64 m)) (h2 : w.cell? ⟨b', 0, none⟩ = some (.int .i64 m)) :
    Calls Tryz.prog 37 #[.slice (some ⟨b, 0, none⟩) 1 c, .slice (some ⟨b', 0, none⟩) 1 c'] w fun e w' => e = .returned (.bool true) ∧ Below w.heap.size w w' := by
  have H1 := hidp h1; have H2 := hidp h2
  have hb1 := World.block_lt_of_cell? w _ h1; have hb2 := World.block_lt_of_cell? w _ h2
  clear h1 h2
  go_enter Tryz.func37, Tryz.ntmps37
  go_wp2_with fail
  go_loopw [13] (fun t13 wr => ∃ k : Nat, t13 = .int .i64 (k : Int) ∧ k ≤ 1 ∧ Below w.heap.size w wr) (fun t13 _ => 1 - (intOf t13).toNat)
  case atStart => exact ⟨0, rfl, by omega, Below.refl _ _⟩
  case round =>
    obtain ⟨k, rfl, hk, hbw⟩ := hrel
    have HBW := hidp hbw
    by_cases hlt : k < 1
    · have k0 : k = 0 := by omega
      subst k0
      have e1 : wr.drew.cell? ⟨b, 0, none⟩ = some (.int .i64 m) := (hbw.cell (p := ⟨b, 0, none⟩) hb1).trans H1.out
      have e2 : wr.drew.cell? ⟨b', 0, none⟩ = some (.int .i64 m) := (hbw.cell (p := ⟨b', 0, none⟩) hb2).trans H2.out
      have hne2 : (m != m) = false := by simp
      clear hbw
      go_wp2_with fail
      go_region
      all_goals go_wp2_with fail
      all_goals exact ⟨⟨1, by go_num, by omega, HBW.out.drew⟩, by simp [intOf]⟩
    · obtain rfl : k = 1 := by omega
      go_wp2_with fail
      go_ret
      exact ⟨rfl, HBW.out⟩
theorem wpL_buildD {P : Program} {ops : Array Oper} {rest : List Oper} {o : Oper} {a : Act} {w : World} {Q : Exit → Act → World → Prop} (d : Nat) (hd : o.dst = some d) (hw : Region.wanted o (yielded ops a.tmps) = true) (T : TypeId) (parts : Array (Nat × Operand)) (ho : o.op = .build T parts) (xs : List Value)
    (hb : P.built T (parts.map fun (i, x) => (i, a.eval x)).toList = some xs.toArray)
    (h : wpList P ops Q rest (a.put o.dst (.agg xs.toArray)) w) : wpList P ops Q (o :: rest) a w := Rt.wpL_build hw T parts ho xs hb h
/-- Events in an array. -/
theorem es_arr {W : World} {b : Nat} {es : List Ev} (ha : Arr W b 25 (rowsE es).flatten) (hf : ∀ e ∈ es, e.fit) (hl : es.length ≤ 1000) : EsAt W (.slice (some ⟨b, 0, none⟩) es.length es.length) es :=
  ⟨⟨rowsE_all _, .inr ⟨b, 0, es.length, by rw [rowsE_len], by rw [rowsE_len]; exact Nat.le_refl _, ha.lt, ha.range⟩⟩, hf, by omega⟩
theorem run_es3 (e f g : Ev) (w : World) : (Instr.buildSlice 33 3 #[(0, .agg e.row.toArray), (1, .agg f.row.toArray), (2, .agg g.row.toArray)]).run Tryz.prog w = .ok (.slice (some ⟨w.heap.size, 0, none⟩) 3 3) (w.alloc (.cells (e.row ++ f.row ++ g.row).toArray 25)) := by
  obtain ⟨i0, hi, hz0, hz1, hz2⟩ := info_parts tyE.info
  refine run_buildSlice w 33 25 3 _ _ i0 _ tyE.us hi hz0 (by rw [hz1]; omega) (by rw [hz1]; omega) ?_
  have hr : Array.range 18 = #[0, 1, 2, 3, 4, 5, 6, 7, 8, 9, 10, 11, 12, 13, 14, 15, 16, 17] := by decide
  rw [hz1]; simp [Instr.fill, Value.cells, hr, Ev.row, zE]
theorem run_es2 (e f : Ev) (w : World) : (Instr.buildSlice 33 2 #[(0, .agg e.row.toArray), (1, .agg f.row.toArray)]).run Tryz.prog w = .ok (.slice (some ⟨w.heap.size, 0, none⟩) 2 2) (w.alloc (.cells (e.row ++ f.row).toArray 25)) := by
  obtain ⟨i0, hi, hz0, hz1, hz2⟩ := info_parts tyE.info
  refine run_buildSlice w 33 25 2 _ _ i0 _ tyE.us hi hz0 (by rw [hz1]; omega) (by rw [hz1]; omega) ?_
  have hr : Array.range 12 = #[0, 1, 2, 3, 4, 5, 6, 7, 8, 9, 10, 11] := by decide
  rw [hz1]; simp [Instr.fill, Value.cells, hr, Ev.row, zE]
section
variable {ops : Array Oper} {rest : List Oper} {o : Oper} {a : Act} {w w0 : World} {N : Nat} {L : List Mm.Bx} {Q : Exit → Act → World → Prop}
theorem wpL_es3 (H : Hid (Mm.M N w0 w L)) (hgd : o.guard = none) (x y u : Operand) (e f g : Ev) (ho : o.op = .buildSlice 33 3 #[(0, x), (1, y), (2, u)]) (hx : a.eval x = .agg e.row.toArray) (hy : a.eval y = .agg f.row.toArray) (hu : a.eval u = .agg g.row.toArray) (he : e.fit) (hf : f.fit) (hg : g.fit)
    (h : ∀ b W, Hid (Mm.M N w0 W L) → EsAt W (.slice (some ⟨b, 0, none⟩) 3 3) [e, f, g] → Below w.heap.size w W → wpList Tryz.prog ops Q rest (a.put o.dst (.slice (some ⟨b, 0, none⟩) 3 3)) W) : wpList Tryz.prog ops Q (o :: rest) a w := by
  refine wpList_plain hgd fun K hK => ?_
  have n := Rt.NewAt.mk' w 25 (e.row ++ f.row ++ g.row)
  have hes := es_arr (es := [e, f, g]) (by simpa [rowsE] using n.arr) (by simp [he, hf, hg]) (by simp)
  have := hK _ _ (h _ _ (hidp (H.out.call n.below)) hes n.below)
  unfold Oper.wp execOp
  simp only [ho, List.map_toArray, List.map_cons, List.map_nil, hx, hy, hu, Sem.run_bind, run_es3 e f g w, Result.andThen_ok]
  exact this
theorem wpL_es2 (H : Hid (Mm.M N w0 w L)) (hgd : o.guard = none) (x y : Operand) (e f : Ev) (ho : o.op = .buildSlice 33 2 #[(0, x), (1, y)]) (hx : a.eval x = .agg e.row.toArray) (hy : a.eval y = .agg f.row.toArray) (he : e.fit) (hf : f.fit)
    (h : ∀ b W, Hid (Mm.M N w0 W L) → EsAt W (.slice (some ⟨b, 0, none⟩) 2 2) [e, f] → Below w.heap.size w W → wpList Tryz.prog ops Q rest (a.put o.dst (.slice (some ⟨b, 0, none⟩) 2 2)) W) : wpList Tryz.prog ops Q (o :: rest) a w := by
  refine wpList_plain hgd fun K hK => ?_
  have n := Rt.NewAt.mk' w 25 (e.row ++ f.row)
  have hes := es_arr (es := [e, f]) (by simpa [rowsE] using n.arr) (by simp [he, hf]) (by simp)
  have := hK _ _ (h _ _ (hidp (H.out.call n.below)) hes n.below)
  unfold Oper.wp execOp
  simp only [ho, List.map_toArray, List.map_cons, List.map_nil, hx, hy, Sem.run_bind, run_es2 e f w, Result.andThen_ok]
  exact this
end
def xEH : Ev := (⟨(⟨#[33, 104, 97, 108, 108, 58, 48]⟩ : ByteArray), (⟨#[64, 97, 110, 110, 58, 48]⟩ : ByteArray), 8, (⟨#[]⟩ : ByteArray), (⟨#[50]⟩ : ByteArray), 0⟩ : Ev)
def xC3 : List Ce := (rn rm0 [xE1, xE2, xEH]).1.cs
def xC2 : List Ce := (rn rm0 [xE1, xEH]).1.cs
theorem f_n3 : (rn rm0 [xE1, xE2, xEH]).2.1 = 3 := by kernel_rfl
theorem f_e3 : (rn rm0 [xE1, xE2, xEH]).2.2 = 0 := by kernel_rfl
theorem f_h3 : (rn rm0 [xE1, xE2, xEH]).1.h = 2 := by kernel_rfl
theorem f_p3 : (rn rm0 [xE1, xE2, xEH]).1.ep = 1 := by kernel_rfl
theorem f_k3 : (rn rm0 [xE1, xE2, xEH]).1.n = 3 := by kernel_rfl
theorem f_l3 : xC3.length = 3 := by kernel_rfl
theorem f_j3 : joL xC3 = [(⟨#[64, 97, 110, 110, 58, 48]⟩ : ByteArray)] := by kernel_rfl
theorem f_c3 : rkE ⟨xC3, 2, 1, 3⟩ = 0 := by kernel_rfl
theorem f_u : who 1 (⟨#[64, 97, 110, 110, 58, 48]⟩ : ByteArray) = some 0 := by kernel_rfl
theorem f_n2 : (rn rm0 [xE1, xEH]).2.1 = 1 := by kernel_rfl
theorem f_e2 : (rn rm0 [xE1, xEH]).2.2 = 12 := by kernel_rfl
theorem f_k2 : (rn rm0 [xE1, xEH]).1.n = 1 := by kernel_rfl
theorem f_l2 : xC2.length = 1 := by kernel_rfl
theorem f_x : rkE ⟨[], 0, 0, -1⟩ = 2 := by kernel_rfl
theorem fitE1 : xE1.fit := ⟨⟨by decide, by decide, by decide, by decide, by decide⟩, by decide, by decide⟩
theorem fitE2 : xE2.fit := ⟨⟨by decide, by decide, by decide, by decide, by decide⟩, by decide, by decide⟩
theorem fitEH : xEH.fit := ⟨⟨by decide, by decide, by decide, by decide, by decide⟩, by decide, by decide⟩
theorem r3_any (W : World) (v : Value) (h : EsAt W v [xE1, xE2, xEH]) (hP : PT W) : Calls Tryz.prog 13 #[v] W fun x w' => ∃ a c, x = .returned (.tuple #[.agg #[.slice a 3 c, .int .i64 2, .int .i64 1, .int .i64 3], .int .i64 3, .int .i64 0]) ∧ CsAt w' (.slice a 3 c) xC3 ∧ Below W.heap.size W w' :=
  (run_any W v _ h hP).mono fun x w' ⟨v', h1, h2, h3⟩ => by
    obtain ⟨a, c, rfl⟩ := h2.form
    have hl : (rn rm0 [xE1, xE2, xEH]).1.cs.length = 3 := f_l3
    rw [f_n3, f_e3, f_h3, f_p3, f_k3] at h1
    rw [hl] at h1 h2
    exact ⟨a, c, h1, h2, h3⟩
theorem r2_any (W : World) (v : Value) (h : EsAt W v [xE1, xEH]) (hP : PT W) : Calls Tryz.prog 13 #[v] W fun x w' => ∃ a c h0 p0, x = .returned (.tuple #[.agg #[.slice a 1 c, .int .i64 h0, .int .i64 p0, .int .i64 1], .int .i64 1, .int .i64 12]) ∧ Below W.heap.size W w' :=
  (run_any W v _ h hP).mono fun x w' ⟨v', h1, h2, h3⟩ => by
    obtain ⟨a, c, rfl⟩ := h2.form
    have hl : (rn rm0 [xE1, xEH]).1.cs.length = 1 := f_l2
    rw [f_n2, f_e2, f_k2] at h1
    rw [hl] at h1
    exact ⟨a, c, _, _, h1, h3⟩
theorem nx_bad (W : World) (e : Ev) (he : e.fit) (hP : PT W) : Calls Tryz.prog 18 #[.agg #[.slice none 0 0, .int .i64 0, .int .i64 0, .int .i64 (-1)], .agg e.row.toArray] W fun x w' => ∃ a c, x = .returned (.tuple #[.agg #[.slice a 0 c, .int .i64 0, .int .i64 0, .int .i64 0], .int .i64 2]) ∧ Below W.heap.size W w' :=
  (next_room W _ [] (CsAt.nil W) (fun c hc => by cases hc) 0 0 (-1) e he hP).mono fun x w' ⟨v', h1, h2, h3⟩ => by
    have e1 : nxR ⟨[], 0, 0, -1⟩ e = rm0 := if_neg (by rw [f_x]; decide)
    have e2 : nxE ⟨[], 0, 0, -1⟩ e = 2 := if_neg (by rw [f_x]; decide)
    rw [e1] at h1 h2
    rw [e2] at h1
    obtain ⟨a, c, rfl⟩ := h2.form
    exact ⟨a, c, h1, h3⟩
theorem jo3_any (W : World) (a : Option Addr) (c : Nat) (h : CsAt W (.slice a 3 c) xC3) : Calls Tryz.prog 21 #[.agg #[.slice a 3 c, .int .i64 2, .int .i64 1, .int .i64 3]] W fun x w' => ∃ v', x = .returned v' ∧ StrsAt w' v' [(⟨#[64, 97, 110, 110, 58, 48]⟩ : ByteArray)] ∧ Below W.heap.size W w' := by
  have := joined_any W _ xC3 h (by rw [f_l3]; decide) 2 1 3; rw [f_j3] at this; exact this
theorem sv3_any (W : World) (a : Option Addr) (c : Nat) (h : CsAt W (.slice a 3 c) xC3) (hP : PT W) : Calls Tryz.prog 38 #[.agg #[.slice a 3 c, .int .i64 2, .int .i64 1, .int .i64 3]] W fun x w' => ∃ g c, x = .returned (.slice (some ⟨g, 0, none⟩) 1 c) ∧ w'.cell? ⟨g, 0, none⟩ = some (.int .i64 0) ∧ Below W.heap.size W w' :=
  servers_one W _ xC3 h (by rw [f_l3]; decide) (⟨#[64, 97, 110, 110, 58, 48]⟩ : ByteArray) 0 f_j3 f_u (by decide) 2 1 3 hP
theorem ck3_any (W : World) (a : Option Addr) (c : Nat) (h : CsAt W (.slice a 3 c) xC3) (hP : PT W) : Calls Tryz.prog 39 #[.agg #[.slice a 3 c, .int .i64 2, .int .i64 1, .int .i64 3]] W fun x w' => x = .returned (.int .i64 0) ∧ Below W.heap.size W w' := by
  have := foldCheck_any W _ xC3 h 2 1 3 hP; rw [f_c3] at this; exact this
theorem s01_any (W : World) (v v' : Value) (u : ByteArray) (h : StrsAt W v [u]) (h' : StrsAt W v' [u]) : Calls Tryz.prog 36 #[v, v'] W fun x w' => x = .returned (.bool true) ∧ Below W.heap.size W w' := by
  have := same01_any W v v' [u] [u] h h' (by simp) (by simp); rw [sameB_self] at this; exact this
theorem strs_one {W : World} {b t : Nat} {u : ByteArray} (h : Arr W b t [.string u]) : StrsAt W (.slice (some ⟨b, 0, none⟩) 1 1) [u] :=
  ⟨some ⟨b, 0, none⟩, 1, rfl, fun k hk => ⟨b, 0, rfl, by
    obtain rfl : k = 0 := by simpa using hk
    exact h.cell 0 (by simp)⟩⟩
end Go.Proofs.YtkcgmimcopoknaaGreatDoor
