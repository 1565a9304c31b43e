/-
  The document's networks: has, Put, Take, Drop, Double, New.
-/
import Derived.Test.YtokakgjcegmabaaNtC
import Derived.Test.YtokakgjcegmabaaNtV
namespace Go.Proofs.Ytokakgjcegmabaa.Nt
set_option maxRecDepth 100000
set_option linter.unusedVariables false
set_option linter.unusedSimpArgs false
open Go.RowKit
open List (getElem_toArray getElem_cons_zero getElem_cons_succ setIfInBounds_toArray set_cons_zero set_cons_succ)
open Vs (VsAt)
theorem rtRN : Rt.RT Try.prog 30 3 [.int .i64 0, .slice none 0 0, .int .i64 0] := ⟨rfl, .inl ⟨_, Try.underlying30⟩, by kernel_rfl⟩
theorem o_ldc {P : Program} {ops : Array Oper} {o : Oper} {a : Act} {w : World} {Q : Exit → Act → World → Prop} {S : World → Prop} {j : Nat} {K : Act → World → Prop} {ty : Nat} (hn : Mm.NA P ty) (ho : ops[j]? = some o) (hw : Region.wanted o (yielded ops a.tmps) = true) (x : Operand) (p : Addr) (v : Value) (hop : o.op = .load ty x) (hx : a.eval x = .pointer (some p)) (hc : w.cell? p = some v) (hS : S w) (h : K (a.put o.dst v) w) : opW P ops Q S j K a w := by
  refine o_make ho hw ?_ hS h
  unfold execOp
  simp only [hop, hx, Instr.loadAt, Instr.sureAddr, Sem.run_bind, Sem.run_pure, Result.andThen_ok, Mm.run_loadVar_one hn w p v hc]
/-- A field of one of the bag's variables, stored in a script. -/
theorem o_putFi {P : Program} {ops : Array Oper} {o : Oper} {a : Act} {w w0 : World} {Q : Exit → Act → World → Prop} {S : World → Prop} {j : Nat} {K : Act → World → Prop} {N : Nat} {L : List Mm.Bx} {ty b t : Nat} {ys : List Value} (H : Hid (Mm.M N w0 w L)) (i : Nat) (hi : L[i]? = some ⟨b, t, ys⟩) (f : Nat) (v : Value) (hT : ∀ W, S W) (ho : ops[j]? = some o) (hw : Region.wanted o (yielded ops a.tmps) = true) (x y : Operand) (hop : o.op = .store ty x y) (hx : a.eval x = .pointer (some ⟨b, f, none⟩)) (hy : a.eval y = v)
    (hs : (P.info? ty).map (·.size) = some 1) (h1 : v.oneCell' = true) (hf : f < ys.length)
    (h : ∀ W, Hid (Mm.M N w0 W (L.set i ⟨b, t, ys.set f v⟩)) → Rt.Stp b w W → K (a.put o.dst undef) W) : opW P ops Q S j K a w := by
  have ha : Arr w b t ys := H.out.has ⟨b, t, ys⟩ (List.mem_of_getElem? hi)
  have st := Rt.Stp.setRow w b (ys.set f v).toArray
  have hM := H.out.put i b t (ys.set f v) ys hi (Arr.row ha (ys.set f v)) st
  subst hy
  refine ⟨o, ho, hw, ?_⟩
  have := h _ (hidp hM) st
  unfold Oper.wp
  rw [show (execOp a.eval o).run P w = .ok .skip (w.setRow b (ys.set f (a.eval y)).toArray) from by
    unfold execOp
    simp only [hop, hx, Instr.storeAt, Instr.sureAddr, Sem.run_bind, Sem.run_pure, Result.andThen_ok, Rt.run_storeVar_cell w b f t ty ys _ ha hf hs h1]]
  exact ⟨hT _, this⟩
theorem VsAt.oneCell {w : World} {v : Value} {fs : List Value} (h : VsAt w v fs) : v.oneCell' = true := by
  obtain ⟨a, c, rfl, -⟩ := h.form; rfl
set_option maxHeartbeats 4000000 in
theorem rhas_any (w : World) (m n : Int) (v : Value) (L : List ByteArray) (hv : VsAt w v (strV L)) (i : Int) : Calls Try.prog 40 #[.agg #[.int .i64 m, v, .int .i64 n], .int .i64 i] w fun e w' => e = .returned (.bool (hasB L i)) ∧ Below w.heap.size w w' := by
  have HV := hidp hv
  obtain ⟨a, c, rfl, -⟩ := hv.form
  rw [strV_length] at *
  have H := hidp (Mm.M.nil w)
  by_cases h0 : 0 ≤ i
  · have e0 : decide (i ≥ (0 : Int)) = true := decide_eq_true h0
    have e0' : decide ((0 : Int) ≤ i) = true := decide_eq_true h0
    have HF := hidp (show hasB L i = decide (i < (L.length : Int)) from by unfold hasB; simp [h0])
    go_enter Try.func40, Try.ntmps40
    have tk0 := hidp trivial
    go_wp2_with (first | (clear tk0; (refine Mm.box 30 H rfl (.tmp 0) rfl [.int .i64 m, .slice a L.length c, .int .i64 n] rfl ?_; clear H; intro b2 _ H nw; have hb := nw.below; clear hb nw); (try simp only [Act.put, setIfInBounds_toArray, set_cons_zero, set_cons_succ]); have tk1 := hidp trivial) | (clear tk1; (refine Mm.ld0 naSS H rfl (.tmp 9) 1 _ rfl rfl rfl ?_); (try simp only [Act.put, setIfInBounds_toArray, set_cons_zero, set_cons_succ]); have tk2 := hidp trivial))
    try clear tk2
    go_ret
    exact ⟨by first | (rw [HF.out]; rfl) | rfl, H.out.below⟩
  · have e0 : decide (i ≥ (0 : Int)) = false := decide_eq_false h0
    have e0' : decide ((0 : Int) ≤ i) = false := decide_eq_false h0
    have HF := hidp (show hasB L i = false from by unfold hasB; simp [h0])
    go_enter Try.func40, Try.ntmps40
    have tk0 := hidp trivial
    go_wp2_with (first | (clear tk0; (refine Mm.box 30 H rfl (.tmp 0) rfl [.int .i64 m, .slice a L.length c, .int .i64 n] rfl ?_; clear H; intro b2 _ H nw; have hb := nw.below; clear hb nw); (try simp only [Act.put, setIfInBounds_toArray, set_cons_zero, set_cons_succ]); have tk1 := hidp trivial))
    try clear tk1
    go_ret
    exact ⟨by first | (rw [HF.out]; rfl) | rfl, H.out.below⟩
set_option maxHeartbeats 8000000 in
theorem rput_any (w : World) (m n : Int) (v : Value) (L : List ByteArray) (hv : VsAt w v (strV L)) (hm : (L.length : Int) ≤ m) (hL : L.length ≤ 1000000) (hn : 0 ≤ n ∧ n ≤ 1048576) (t : ByteArray) : Calls Try.prog 10 #[.agg #[.int .i64 m, v, .int .i64 n], .string t] w fun e w' => ∃ v', e = .returned (.tuple #[.agg #[.int .i64 m, v', .int .i64 (putN L m n)], .int .i64 (putE L m)]) ∧ VsAt w' v' (strV (putL L m t)) ∧ Nr w v v' ∧ Below w.heap.size w w' := by
  have HV := hidp hv
  have hone := VsAt.oneCell hv
  obtain ⟨a, c, hvf, -⟩ := hv.form
  rw [strV_length] at hvf
  have hw2 := show IntKind.i64.wrap (n + 1) = n + 1 from by rw [IntKind.wrap_i64]; omega
  have H := hidp (Mm.M.nil w)
  clear hv
  by_cases hf : m ≤ (L.length : Int)
  · have HE := hidp (show putE L m = 8 from if_pos hf); have HL := hidp (show putL L m t = L from if_pos hf); have HN := hidp (show putN L m n = n + 1 from if_pos hf)
    have e1 : ((L.length : Int) == m) = true := by rw [beq_iff_eq]; omega
    subst hvf
    clear hf hm
    go_enter Try.func10, Try.ntmps10
    have tk0 := hidp trivial
    go_wp2_with (first | (clear tk0; (refine Mm.box 30 H rfl (.tmp 0) rfl [.int .i64 m, (.slice a L.length c), .int .i64 n] rfl ?_; clear H; intro b2 _ H nw; have hb := nw.below; clear hb nw); (try simp only [Act.put, setIfInBounds_toArray, set_cons_zero, set_cons_succ]); have tk1 := hidp trivial) | (clear tk1; (refine Mm.new rtRN H (some 4) rfl rfl rfl ?_; clear H; intro b4 _ H nw; have hb := nw.below; clear hb nw); (try simp only [Act.put, setIfInBounds_toArray, set_cons_zero, set_cons_succ]); have tk2 := hidp trivial) | (clear tk2; (refine Mm.ld1 naSS H rfl (.tmp 6) 1 _ rfl rfl rfl ?_); (try simp only [Act.put, setIfInBounds_toArray, set_cons_zero, set_cons_succ]); have tk3 := hidp trivial) | (clear tk3; (refine Mm.ld1 naI H rfl (.tmp 9) 0 _ rfl rfl rfl ?_); (try simp only [Act.put, setIfInBounds_toArray, set_cons_zero, set_cons_succ]); have tk4 := hidp trivial) | (clear tk4; (refine Mm.ld1 naI H rfl (.tmp 12) 2 _ rfl rfl rfl ?_); (try simp only [Act.put, setIfInBounds_toArray, set_cons_zero, set_cons_succ]); have tk5 := hidp trivial) | (clear tk5; (refine Mm.putF1 H rfl 3 (.tmp 15) (.tmp 14) 2 (.int .i64 (n + 1)) rfl rfl rfl (by kernel_rfl) rfl (of_decide_eq_true rfl) ?_; intro _ H2 st; clear st H; have H : Hid (Mm.M w.heap.size w _ ([⟨b4, 30, [.int .i64 0, .slice none 0 0, .int .i64 0]⟩, ⟨b2, 30, [.int .i64 m, (.slice a L.length c), .int .i64 (n + 1)]⟩])) := H2; clear H2); (try simp only [Act.put, setIfInBounds_toArray, set_cons_zero, set_cons_succ]); have tk6 := hidp trivial) | (clear tk6; (refine Mm.get1 rtRN H rfl (.tmp 2) rfl rfl rfl ?_); (try simp only [Act.put, setIfInBounds_toArray, set_cons_zero, set_cons_succ]); have tk7 := hidp trivial) | (clear tk7; (refine Mm.put0 rtRN H rfl (.tmp 4) (.tmp 16) [.int .i64 m, (.slice a L.length c), .int .i64 (n + 1)] rfl rfl rfl rfl (by intro u hu; simp only [List.mem_cons, List.not_mem_nil, or_false] at hu; rcases hu with rfl | rfl | rfl <;> first | rfl | exact hone) rfl ?_; intro _ H2 st; clear st H; have H := H2; clear H2); (try simp only [Act.put, setIfInBounds_toArray, set_cons_zero, set_cons_succ]); have tk8 := hidp trivial))
    try clear tk8
    refine bodyPost_ret (Mm.ret_rowv rtRN Try.results10 _ b4 _ _ rfl rfl H.out.at0 rfl) rfl ⟨_, by rw [HE.out, HN.out]; rfl, by rw [HL.out]; exact HV.out.to H.out.below, fun g hg => .inl hg, H.out.below⟩
  · have HE := hidp (show putE L m = 0 from if_neg hf); have HL := hidp (show putL L m t = L ++ [t] from if_neg hf); have HN := hidp (show putN L m n = n from if_neg hf)
    have e1 : ((L.length : Int) == m) = false := by rw [beq_eq_false_iff_ne]; omega
    obtain ⟨l, hl⟩ : ∃ l, L.length = l := ⟨_, rfl⟩
    rw [hl] at e1 hL hvf
    have HLL := hidp hl
    subst hvf
    clear hf hm hl
    go_enter Try.func10, Try.ntmps10
    have tk0 := hidp trivial
    go_wp2_with (first | (clear tk0; (refine Mm.box 30 H rfl (.tmp 0) rfl [.int .i64 m, (.slice a l c), .int .i64 n] rfl ?_; clear H; intro b2 _ H nw; have hb := nw.below; clear hb nw); (try simp only [Act.put, setIfInBounds_toArray, set_cons_zero, set_cons_succ]); have tk1 := hidp trivial) | (clear tk1; (refine Mm.new rtRN H (some 4) rfl rfl rfl ?_; clear H; intro b4 _ H nw; have hb := nw.below; clear hb nw); (try simp only [Act.put, setIfInBounds_toArray, set_cons_zero, set_cons_succ]); have tk2 := hidp trivial) | (clear tk2; (refine Mm.ld1 naSS H rfl (.tmp 6) 1 _ rfl rfl rfl ?_); (try simp only [Act.put, setIfInBounds_toArray, set_cons_zero, set_cons_succ]); have tk3 := hidp trivial) | (clear tk3; (refine Mm.ld1 naI H rfl (.tmp 9) 0 _ rfl rfl rfl ?_); (try simp only [Act.put, setIfInBounds_toArray, set_cons_zero, set_cons_succ]); have tk4 := hidp trivial) | (clear tk4; (refine Vs.wpL_bs0S rfl rfl ?_; intro b17 W17 n17; have HU := H; have HGE := hidp H.out.le; have HBU := hidp n17.below; have HO := hidp (Vs.own_bs0 n17.arr n17.le); clear H; have H := hidp (HU.out.call HBU.out); clear n17); (try simp only [Act.put, setIfInBounds_toArray, set_cons_zero, set_cons_succ]); have tk5 := hidp trivial) | (clear tk5; (refine Mm.ld1 naSS H rfl (.tmp 18) 1 _ rfl rfl rfl ?_); (try simp only [Act.put, setIfInBounds_toArray, set_cons_zero, set_cons_succ]); have tk6 := hidp trivial) | (clear tk6; (refine Vs.wpL_appVs rfl (.tmp 17) (.tmp 19) rfl _ _ _ [] (strV L) rfl rfl HO.out (HV.out.to H.out.below) (Vs.one_strV _) HBU.out.size (by rw [strV_length]; have := HLL.out; simp; omega) ?_; intro v20 W20 ho hg hat; rw [List.nil_append] at ho; replace HBU := hidp (HBU.out.trans ((Below.refl _ _).grown hg HBU.out.size fun k hk => (World.ownsRow.lt HO.out k hk).1)); clear H HO; have H := hidp (HU.out.call HBU.out); have HO := hidp ho; clear ho hg hat); (try simp only [Act.put, setIfInBounds_toArray, set_cons_zero, set_cons_succ]); have tk7 := hidp trivial) | (clear tk7; (refine Sl.wpL_bsS1 H rfl (.tmp 21) t rfl rfl ?_; clear H; intro b22 W22 H n22; replace HBU := hidp (HBU.out.trans (n22.below.mono HBU.out.size)); replace HO := hidp (Sl.own_to HO.out n22.below); have H22 := hidp (Vs.VsAt.one n22.arr); clear H n22; have H := hidp (HU.out.call HBU.out)); (try simp only [Act.put, setIfInBounds_toArray, set_cons_zero, set_cons_succ]); have tk8 := hidp trivial) | (clear tk8; (refine Vs.wpL_appVs rfl (.tmp 20) (.tmp 22) rfl _ _ _ (strV L) [.string t] rfl rfl HO.out H22.out (Vs.one_strV [t]) HBU.out.size (by rw [strV_length]; have := HLL.out; simp; omega) ?_; intro v23 W23 ho hg hat; replace HBU := hidp (HBU.out.trans ((Below.refl _ _).grown hg HBU.out.size fun k hk => (World.ownsRow.lt HO.out k hk).1)); clear H HO H22; have H := hidp (HU.out.call HBU.out); have HO := hidp (show OwnV _ _ 9 v23 (strV (L ++ [t])) from by rw [← strV_snoc]; exact ho); have hone := VsAt.oneCell (Vs.VsAt.own ho); clear ho hg hat); (try simp only [Act.put, setIfInBounds_toArray, set_cons_zero, set_cons_succ]); have tk9 := hidp trivial) | (clear tk9; (refine Mm.putF1 H rfl 28 (.tmp 24) (.tmp 23) 1 (v23) rfl rfl rfl (by kernel_rfl) hone (of_decide_eq_true rfl) ?_; intro _ H2 st; replace HO := hidp (Sl.own_stp HO.out st H.out.at1 (by decide)); clear st H; have H : Hid (Mm.M w.heap.size w _ ([⟨b4, 30, [.int .i64 0, .slice none 0 0, .int .i64 0]⟩, ⟨b2, 30, [.int .i64 m, v23, .int .i64 n]⟩])) := H2; clear H2); (try simp only [Act.put, setIfInBounds_toArray, set_cons_zero, set_cons_succ]); have tk10 := hidp trivial) | (clear tk10; (refine Mm.get1 rtRN H rfl (.tmp 2) rfl rfl rfl ?_); (try simp only [Act.put, setIfInBounds_toArray, set_cons_zero, set_cons_succ]); have tk11 := hidp trivial) | (clear tk11; (refine Mm.put0 rtRN H rfl (.tmp 4) (.tmp 25) [.int .i64 m, v23, .int .i64 n] rfl rfl rfl rfl (by intro u hu; simp only [List.mem_cons, List.not_mem_nil, or_false] at hu; rcases hu with rfl | rfl | rfl <;> first | rfl | exact hone) rfl ?_; intro _ H2 st; replace HO := hidp (Sl.own_stp HO.out st H.out.at0 (by decide)); clear st H; have H := H2; clear H2); (try simp only [Act.put, setIfInBounds_toArray, set_cons_zero, set_cons_succ]); have tk12 := hidp trivial))
    try clear tk12
    refine bodyPost_ret (Mm.ret_rowv rtRN Try.results10 _ b4 _ _ rfl rfl H.out.at0 rfl) rfl ⟨v23, by rw [HE.out, HN.out]; rfl, by rw [HL.out]; exact Vs.VsAt.own HO.out, fun g hg => .inr (Nat.le_trans HGE.out (Vs.own_blk HO.out hg)), H.out.below⟩
/-- What a function returns: a row and two values. -/
theorem ret_rowvv {P : Program} {w : World} {T k : Nat} {z : List Value} (R : Rt.RT P T k z) {fn : Func} {p u s : Tmp} (hr : fn.results = #[.cell p T, .tmp u, .tmp s]) (tmps : Array Value) (b : Nat) (xs : List Value) (v x : Value) (hp : tmps.getD p undef = .pointer (some ⟨b, 0, none⟩)) (hv : tmps.getD u undef = v) (hx : tmps.getD s undef = x) (ha : Arr w b T xs) (hl : xs.length = k) : (results fn tmps).run P w = .ok (.tuple #[.agg xs.toArray, v, x]) w := by
  have hp' : tmps[p]?.getD undef = .pointer (some ⟨b, 0, none⟩) := by simpa using hp
  have hv' : tmps[u]?.getD undef = v := by simpa using hv
  have hx' : tmps[s]?.getD undef = x := by simpa using hx
  rcases R.ut with ⟨fs, hu⟩ | ⟨n, e, hu⟩
  · have e2 := run_loadVar_row (P := P) w b T T xs.toArray (0, 0) _ ha hu rfl (R.size hl)
    simp [results, hr, hp', hv', hx', asAddr, e2]
  · have e2 := run_loadVar_row (P := P) w b T T xs.toArray (0, 0) _ ha hu rfl (R.size hl)
    simp [results, hr, hp', hv', hx', asAddr, e2]
set_option maxHeartbeats 16000000 in
theorem rtake_any (w : World) (m n : Int) (v : Value) (L : List ByteArray) (hv : VsAt w v (strV L)) (hL : L.length ≤ 1000000) (i : Int) : Calls Try.prog 12 #[.agg #[.int .i64 m, v, .int .i64 n], .int .i64 i] w fun e w' => ∃ v', e = .returned (.tuple #[.agg #[.int .i64 m, v', .int .i64 n], .string (tkS L i), .int .i64 (tkE L i)]) ∧ VsAt w' v' (strV (tkL L i)) ∧ Nr w v v' ∧ Below w.heap.size w w' := by
  have HV := hidp hv
  have hone := VsAt.oneCell hv
  have H := hidp (Mm.M.nil w)
  have ch := hidp (fun W (hv : VsAt W v (strV L)) => rhas_any W m n v L hv i)
  cases hh : hasB L i with
  | false =>
    rw [hh] at ch
    have HE := hidp (show Value.tuple #[.agg #[.int .i64 m, v, .int .i64 n], .string (tkS L i), .int .i64 (tkE L i)] = .tuple #[.agg #[.int .i64 m, v, .int .i64 n], .string ⟨#[]⟩, .int .i64 3] from by unfold tkS tkE; rw [hh]; rfl)
    have HL := hidp (show tkL L i = L from if_neg (by rw [hh]; exact Bool.false_ne_true))
    clear hh hv
    go_enter Try.func12, Try.ntmps12
    have tk0 := hidp trivial
    go_wp2_with (first | (clear tk0; (refine Mm.box 30 H rfl (.tmp 0) rfl [.int .i64 m, v, .int .i64 n] rfl ?_; clear H; intro b2 _ H nw; have hb := nw.below; clear hb nw); (try simp only [Act.put, setIfInBounds_toArray, set_cons_zero, set_cons_succ]); have tk1 := hidp trivial) | (clear tk1; (refine Mm.new rtRN H (some 4) rfl rfl rfl ?_; clear H; intro b4 _ H nw; have hb := nw.below; clear hb nw); (try simp only [Act.put, setIfInBounds_toArray, set_cons_zero, set_cons_succ]); have tk2 := hidp trivial) | (clear tk2; (refine Mm.get1 rtRN H rfl (.tmp 2) rfl rfl rfl ?_); (try simp only [Act.put, setIfInBounds_toArray, set_cons_zero, set_cons_succ]); have tk3 := hidp trivial) | (clear tk3; (go_at_call 40; refine (ch.out _ (HV.out.to H.out.below)).mono ?_; rintro e _ ⟨rfl, hb⟩; replace H := hidp (H.out.call hb); clear ch; clear hb); (try simp only [Act.put, setIfInBounds_toArray, set_cons_zero, set_cons_succ]); have tk4 := hidp trivial) | (clear tk4; (refine Mm.get1 rtRN H rfl (.tmp 2) rfl rfl rfl ?_); (try simp only [Act.put, setIfInBounds_toArray, set_cons_zero, set_cons_succ]); have tk5 := hidp trivial) | (clear tk5; (refine Mm.put0 rtRN H rfl (.tmp 4) (.tmp 12) [.int .i64 m, v, .int .i64 n] rfl rfl rfl rfl (by intro u hu; simp only [List.mem_cons, List.not_mem_nil, or_false] at hu; rcases hu with rfl | rfl | rfl <;> first | rfl | exact hone) rfl ?_; intro _ H2 st; clear st H; have H := H2; clear H2); (try simp only [Act.put, setIfInBounds_toArray, set_cons_zero, set_cons_succ]); have tk6 := hidp trivial))
    try clear tk6
    refine bodyPost_ret (ret_rowvv rtRN Try.results12 _ b4 _ _ _ rfl rfl rfl H.out.at0 rfl) rfl ⟨_, by rw [HE.out]; rfl, by rw [HL.out]; exact (HV.out.to H.out.below), fun g hg => .inl hg, H.out.below⟩
  | true =>
    rw [hh] at ch
    obtain ⟨k, rfl, hk⟩ := hasB_nat hh
    obtain ⟨g, off, c, hvf, hlc, hgl, hcells⟩ := Vs.VsAt.get hv (by rw [strV_length]; omega)
    rw [strV_length] at hvf hlc
    have hcl := hidp (show w.cell? ⟨g, off + k, none⟩ = some (.string (Sl.sAt L k)) from by rw [hcells k (by rw [strV_length]; exact hk), Sl.sAt_get hk]; simp [strV])
    subst hvf
    obtain ⟨hkc, ht⟩ := Vs.VsAt.take hv k (by rw [strV_length]; omega)
    obtain ⟨-, hd⟩ := Vs.VsAt.drop hv (k + 1) (by rw [strV_length]; omega)
    have HT := hidp ht; have HD := hidp hd
    obtain ⟨X, hX⟩ : ∃ X, Sl.sAt L k = X := ⟨_, rfl⟩
    have HE := hidp (show ∀ v', Value.tuple #[.agg #[.int .i64 m, v', .int .i64 n], .string (tkS L (k : Int)), .int .i64 (tkE L (k : Int))] = .tuple #[.agg #[.int .i64 m, v', .int .i64 n], .string X, .int .i64 0] from fun v' => by unfold tkS tkE; rw [if_pos hh, if_pos hh, Int.toNat_natCast, hX])
    have HL := hidp (show tkL L (k : Int) = L.eraseIdx k from by unfold tkL; rw [if_pos hh, Int.toNat_natCast])
    have HLE := hidp (show strV (L.eraseIdx k) = (strV L).take k ++ (strV L).drop (k + 1) from by unfold strV; rw [List.eraseIdx_eq_take_drop_succ, List.map_append, List.map_take, List.map_drop])
    rw [hX] at hcl
    obtain ⟨l, hl⟩ : ∃ l, L.length = l := ⟨_, rfl⟩
    rw [hl] at hk hL hlc HV ch HD
    have HLL := hidp hl
    have hw1 := show IntKind.i64.wrap ((k : Int) + 1) = (k : Int) + 1 from by rw [IntKind.wrap_i64]; omega
    clear hh hv hcells ht hd hX
    rw [hl]
    clear hl
    go_enter Try.func12, Try.ntmps12
    have tk0 := hidp trivial
    go_upto_region 4 with (first | (clear tk0; (refine Mm.box 30 H rfl (.tmp 0) rfl [.int .i64 m, (.slice (some ⟨g, off, none⟩) l c), .int .i64 n] rfl ?_; clear H; intro b2 _ H nw; have hb := nw.below; clear hb nw); (try simp only [Act.put, setIfInBounds_toArray, set_cons_zero, set_cons_succ]); have tk1 := hidp trivial) | (clear tk1; (refine Mm.new rtRN H (some 4) rfl rfl rfl ?_; clear H; intro b4 _ H nw; have hb := nw.below; clear hb nw); (try simp only [Act.put, setIfInBounds_toArray, set_cons_zero, set_cons_succ]); have tk2 := hidp trivial) | (clear tk2; (refine Mm.get1 rtRN H rfl (.tmp 2) rfl rfl rfl ?_); (try simp only [Act.put, setIfInBounds_toArray, set_cons_zero, set_cons_succ]); have tk3 := hidp trivial) | (clear tk3; (go_at_call 40; refine (ch.out _ (HV.out.to H.out.below)).mono ?_; rintro e _ ⟨rfl, hb⟩; replace H := hidp (H.out.call hb); clear ch; clear hb); (try simp only [Act.put, setIfInBounds_toArray, set_cons_zero, set_cons_succ]); have tk4 := hidp trivial) | (clear tk4; (refine Mm.ld1 naSS H rfl (.tmp 13) 1 _ rfl rfl rfl ?_); (try simp only [Act.put, setIfInBounds_toArray, set_cons_zero, set_cons_succ]); have tk5 := hidp trivial) | (clear tk5; (refine Sl.wpL_idx1 Sl.tyS (by kernel_rfl) rfl (.tmp 14) (.tmp 15) rfl g off l c k rfl rfl hk ?_); (try simp only [Act.put, setIfInBounds_toArray, set_cons_zero, set_cons_succ]); have tk6 := hidp trivial) | (clear tk6; (refine Mm.ldc naS rfl (.tmp 16) ⟨g, off + k, none⟩ (.string X) rfl rfl ((H.out.below.cell (p := ⟨g, off + k, none⟩) hgl).trans hcl.out) ?_); (try simp only [Act.put, setIfInBounds_toArray, set_cons_zero, set_cons_succ]); have tk7 := hidp trivial))
    try clear tk7
    refine regionT (.take 1 (.take 3 (.take 6 (.take 8 (.take 9 (.three 0 (.two 2 (.take 4 (.two 5 (.one 7 (.take 10 (.one 11 (.take 12 (.one 13 .done))))) 7 (.take 10 (.one 5 (.one 11 (.take 12 (.one 13 .done))))))) 7 (.take 10 (.one 2 (.take 4 (.one 5 (.one 11 (.take 12 (.one 13 .done)))))))) 2 (.take 4 (.two 0 (.two 5 (.one 7 (.take 10 (.one 11 (.take 12 (.one 13 .done))))) 7 (.take 10 (.one 5 (.one 11 (.take 12 (.one 13 .done)))))) 7 (.take 10 (.one 0 (.one 5 (.one 11 (.take 12 (.one 13 .done)))))))) 7 (.take 10 (.two 0 (.one 2 (.take 4 (.one 5 (.one 11 (.take 12 (.one 13 .done)))))) 2 (.take 4 (.one 0 (.one 5 (.one 11 (.take 12 (.one 13 .done)))))))))))))) (by kernel_rfl) (by kernel_rfl) (by simp [Scr.depth]) (by kernel_rfl) ?_
    intro U hU
    replace H := hidp (H.out.call hU)
    clear hU
    apply s_val
    case ho | hw => rfl
    case hv => intro w hw; go_simp; first | done | rfl
    simp only [Act.put, getElem_toArray, getElem_cons_zero, getElem_cons_succ, setIfInBounds_toArray, set_cons_zero, set_cons_succ]
    apply s_val
    case ho | hw => rfl
    case hv => intro w hw; go_simp; first | done | rfl
    simp only [Act.put, getElem_toArray, getElem_cons_zero, getElem_cons_succ, setIfInBounds_toArray, set_cons_zero, set_cons_succ]
    apply s_val
    case ho | hw => rfl
    case hv => intro w hw; go_simp; first | done | rfl
    simp only [Act.put, getElem_toArray, getElem_cons_zero, getElem_cons_succ, setIfInBounds_toArray, set_cons_zero, set_cons_succ]
    apply s_val
    case ho | hw => rfl
    case hv => intro w hw; go_simp; first | done | rfl
    simp only [Act.put, getElem_toArray, getElem_cons_zero, getElem_cons_succ, setIfInBounds_toArray, set_cons_zero, set_cons_succ]
    apply s_val
    case ho | hw => rfl
    case hv => intro w hw; go_simp; first | done | rfl
    simp only [Act.put, getElem_toArray, getElem_cons_zero, getElem_cons_succ, setIfInBounds_toArray, set_cons_zero, set_cons_succ]
    refine ⟨?_, ?_, ?_⟩
    · refine Vs.o_bs0S rfl rfl rfl ?_
      intro b18 W18 n18
      refine ⟨trivial, ?_⟩
      have HU := H
      have HGE := hidp HU.out.le
      have HBU := hidp n18.below
      have HO := hidp (Vs.own_bs0 n18.arr n18.le)
      clear H
      have H := hidp (HU.out.call HBU.out)
      clear n18
      simp only [Act.put, getElem_toArray, getElem_cons_zero, getElem_cons_succ, setIfInBounds_toArray, set_cons_zero, set_cons_succ]
      refine ⟨?_, ?_⟩
      · refine o_ldc naSS rfl rfl (.tmp 19) ⟨b2, 1, none⟩ (.slice (some ⟨g, off, none⟩) l c) rfl rfl (H.out.at1.cell 1 (by simp)) trivial ?_
        simp only [Act.put, getElem_toArray, getElem_cons_zero, getElem_cons_succ, setIfInBounds_toArray, set_cons_zero, set_cons_succ]
        refine Vs.s_toVs rfl rfl (.tmp 20) (.tmp 21) rfl (some ⟨g, off, none⟩) l c k rfl rfl hkc ?_
        simp only [Act.put, getElem_toArray, getElem_cons_zero, getElem_cons_succ, setIfInBounds_toArray, set_cons_zero, set_cons_succ]
        refine ⟨?_, ?_⟩
        · refine Vs.o_appVs rfl rfl (.tmp 18) (.tmp 22) rfl _ _ _ ([]) ((strV L).take k) rfl rfl HO.out (HT.out.to H.out.below) (fun x hx => Vs.one_strV L x (List.mem_of_mem_take hx)) HBU.out.size (by have := HLL.out; simp [strV_length] <;> omega) ?_
          intro v23 Wv23 ho hg hat
          refine ⟨trivial, ?_⟩
          replace HBU := hidp (HBU.out.trans ((Below.refl _ _).grown hg HBU.out.size fun k hk => (World.ownsRow.lt HO.out k hk).1))
          clear H HO
          have H := hidp (HU.out.call HBU.out)
          have HO := hidp (show OwnV _ _ _ v23 ((strV L).take k) from by rw [List.nil_append] at ho; exact ho)
          clear ho hg hat
          simp only [Act.put, getElem_toArray, getElem_cons_zero, getElem_cons_succ, setIfInBounds_toArray, set_cons_zero, set_cons_succ]
          refine o_ldc naSS rfl rfl (.tmp 24) ⟨b2, 1, none⟩ (.slice (some ⟨g, off, none⟩) l c) rfl rfl (H.out.at1.cell 1 (by simp)) trivial ?_
          simp only [Act.put, getElem_toArray, getElem_cons_zero, getElem_cons_succ, setIfInBounds_toArray, set_cons_zero, set_cons_succ]
          refine Vs.s_fromVs rfl rfl (.tmp 25) (.tmp 27) rfl (some ⟨g, off, none⟩) l c (k + 1) rfl rfl hk ?_
          simp only [Act.put, getElem_toArray, getElem_cons_zero, getElem_cons_succ, setIfInBounds_toArray, set_cons_zero, set_cons_succ]
          refine Vs.o_appVs rfl rfl (.tmp 23) (.tmp 28) rfl _ _ _ ((strV L).take k) ((strV L).drop (k + 1)) rfl rfl HO.out (HD.out.to H.out.below) (fun x hx => Vs.one_strV L x (List.mem_of_mem_drop hx)) HBU.out.size (by have := HLL.out; simp [strV_length] <;> omega) ?_
          intro v29 Wv29 ho hg hat
          refine ⟨trivial, ?_⟩
          replace HBU := hidp (HBU.out.trans ((Below.refl _ _).grown hg HBU.out.size fun k hk => (World.ownsRow.lt HO.out k hk).1))
          clear H HO
          have H := hidp (HU.out.call HBU.out)
          have HO := hidp (show OwnV _ _ _ v29 (strV (L.eraseIdx k)) from by rw [HLE.out]; exact ho)
          have hone := VsAt.oneCell (Vs.VsAt.own ho)
          clear ho hg hat
          simp only [Act.put, getElem_toArray, getElem_cons_zero, getElem_cons_succ, setIfInBounds_toArray, set_cons_zero, set_cons_succ]
          apply s_val
          case ho | hw => rfl
          case hv => intro w hw; go_simp; first | done | rfl
          simp only [Act.put, getElem_toArray, getElem_cons_zero, getElem_cons_succ, setIfInBounds_toArray, set_cons_zero, set_cons_succ]
          refine o_putFi H 1 rfl 1 v29 (fun _ => trivial) rfl rfl (.tmp 30) (.tmp 29) rfl rfl rfl (by kernel_rfl) hone (by simp) ?_
          intro _ H2 st
          have HO2 := hidp (Sl.own_stp HO.out st H.out.at1 (by decide))
          clear H HO st
          have H : Hid (Mm.M w.heap.size w _ ([⟨b4, 30, [.int .i64 0, .slice none 0 0, .int .i64 0]⟩, ⟨b2, 30, [.int .i64 m, v29, .int .i64 n]⟩])) := H2
          have HO := HO2
          clear H2 HO2
          simp only [Act.put, getElem_toArray, getElem_cons_zero, getElem_cons_succ, setIfInBounds_toArray, set_cons_zero, set_cons_succ]
          refine NoPanic.normal ?_
          have tk0 := hidp trivial
          go_wp2_with (first | (clear tk0; (refine Mm.get1 rtRN H rfl (.tmp 2) rfl rfl rfl ?_); (try simp only [Act.put, setIfInBounds_toArray, set_cons_zero, set_cons_succ]); have tk1 := hidp trivial) | (clear tk1; (refine Mm.put0 rtRN H rfl (.tmp 4) (.tmp 31) [.int .i64 m, v29, .int .i64 n] rfl rfl rfl rfl (by intro u hu; simp only [List.mem_cons, List.not_mem_nil, or_false] at hu; rcases hu with rfl | rfl | rfl <;> first | rfl | exact hone) rfl ?_; intro _ H2 st; replace HO := hidp (Sl.own_stp HO.out st H.out.at0 (by decide)); clear st H; have H := H2; clear H2); (try simp only [Act.put, setIfInBounds_toArray, set_cons_zero, set_cons_succ]); have tk2 := hidp trivial))
          try clear tk2
          refine bodyPost_ret (ret_rowvv rtRN Try.results12 _ b4 _ _ _ rfl rfl rfl H.out.at0 rfl) rfl ⟨v29, by rw [HE.out]; rfl, by rw [HL.out]; exact Vs.VsAt.own HO.out, fun g hg => .inr (Nat.le_trans HGE.out (Vs.own_blk HO.out hg)), H.out.below⟩
        · refine o_ldc naSS rfl rfl (.tmp 24) ⟨b2, 1, none⟩ (.slice (some ⟨g, off, none⟩) l c) rfl rfl (H.out.at1.cell 1 (by simp)) trivial ?_
          simp only [Act.put, getElem_toArray, getElem_cons_zero, getElem_cons_succ, setIfInBounds_toArray, set_cons_zero, set_cons_succ]
          refine Vs.s_fromVs rfl rfl (.tmp 25) (.tmp 27) rfl (some ⟨g, off, none⟩) l c (k + 1) rfl rfl hk ?_
          simp only [Act.put, getElem_toArray, getElem_cons_zero, getElem_cons_succ, setIfInBounds_toArray, set_cons_zero, set_cons_succ]
          refine Vs.o_appVs rfl rfl (.tmp 18) (.tmp 22) rfl _ _ _ ([]) ((strV L).take k) rfl rfl HO.out (HT.out.to H.out.below) (fun x hx => Vs.one_strV L x (List.mem_of_mem_take hx)) HBU.out.size (by have := HLL.out; simp [strV_length] <;> omega) ?_
          intro v23 Wv23 ho hg hat
          refine ⟨trivial, ?_⟩
          replace HBU := hidp (HBU.out.trans ((Below.refl _ _).grown hg HBU.out.size fun k hk => (World.ownsRow.lt HO.out k hk).1))
          clear H HO
          have H := hidp (HU.out.call HBU.out)
          have HO := hidp (show OwnV _ _ _ v23 ((strV L).take k) from by rw [List.nil_append] at ho; exact ho)
          clear ho hg hat
          simp only [Act.put, getElem_toArray, getElem_cons_zero, getElem_cons_succ, setIfInBounds_toArray, set_cons_zero, set_cons_succ]
          refine Vs.o_appVs rfl rfl (.tmp 23) (.tmp 28) rfl _ _ _ ((strV L).take k) ((strV L).drop (k + 1)) rfl rfl HO.out (HD.out.to H.out.below) (fun x hx => Vs.one_strV L x (List.mem_of_mem_drop hx)) HBU.out.size (by have := HLL.out; simp [strV_length] <;> omega) ?_
          intro v29 Wv29 ho hg hat
          refine ⟨trivial, ?_⟩
          replace HBU := hidp (HBU.out.trans ((Below.refl _ _).grown hg HBU.out.size fun k hk => (World.ownsRow.lt HO.out k hk).1))
          clear H HO
          have H := hidp (HU.out.call HBU.out)
          have HO := hidp (show OwnV _ _ _ v29 (strV (L.eraseIdx k)) from by rw [HLE.out]; exact ho)
          have hone := VsAt.oneCell (Vs.VsAt.own ho)
          clear ho hg hat
          simp only [Act.put, getElem_toArray, getElem_cons_zero, getElem_cons_succ, setIfInBounds_toArray, set_cons_zero, set_cons_succ]
          apply s_val
          case ho | hw => rfl
          case hv => intro w hw; go_simp; first | done | rfl
          simp only [Act.put, getElem_toArray, getElem_cons_zero, getElem_cons_succ, setIfInBounds_toArray, set_cons_zero, set_cons_succ]
          refine o_putFi H 1 rfl 1 v29 (fun _ => trivial) rfl rfl (.tmp 30) (.tmp 29) rfl rfl rfl (by kernel_rfl) hone (by simp) ?_
          intro _ H2 st
          have HO2 := hidp (Sl.own_stp HO.out st H.out.at1 (by decide))
          clear H HO st
          have H : Hid (Mm.M w.heap.size w _ ([⟨b4, 30, [.int .i64 0, .slice none 0 0, .int .i64 0]⟩, ⟨b2, 30, [.int .i64 m, v29, .int .i64 n]⟩])) := H2
          have HO := HO2
          clear H2 HO2
          simp only [Act.put, getElem_toArray, getElem_cons_zero, getElem_cons_succ, setIfInBounds_toArray, set_cons_zero, set_cons_succ]
          refine NoPanic.normal ?_
          have tk0 := hidp trivial
          go_wp2_with (first | (clear tk0; (refine Mm.get1 rtRN H rfl (.tmp 2) rfl rfl rfl ?_); (try simp only [Act.put, setIfInBounds_toArray, set_cons_zero, set_cons_succ]); have tk1 := hidp trivial) | (clear tk1; (refine Mm.put0 rtRN H rfl (.tmp 4) (.tmp 31) [.int .i64 m, v29, .int .i64 n] rfl rfl rfl rfl (by intro u hu; simp only [List.mem_cons, List.not_mem_nil, or_false] at hu; rcases hu with rfl | rfl | rfl <;> first | rfl | exact hone) rfl ?_; intro _ H2 st; replace HO := hidp (Sl.own_stp HO.out st H.out.at0 (by decide)); clear st H; have H := H2; clear H2); (try simp only [Act.put, setIfInBounds_toArray, set_cons_zero, set_cons_succ]); have tk2 := hidp trivial))
          try clear tk2
          refine bodyPost_ret (ret_rowvv rtRN Try.results12 _ b4 _ _ _ rfl rfl rfl H.out.at0 rfl) rfl ⟨v29, by rw [HE.out]; rfl, by rw [HL.out]; exact Vs.VsAt.own HO.out, fun g hg => .inr (Nat.le_trans HGE.out (Vs.own_blk HO.out hg)), H.out.below⟩
      · refine o_ldc naSS rfl rfl (.tmp 24) ⟨b2, 1, none⟩ (.slice (some ⟨g, off, none⟩) l c) rfl rfl (H.out.at1.cell 1 (by simp)) trivial ?_
        simp only [Act.put, getElem_toArray, getElem_cons_zero, getElem_cons_succ, setIfInBounds_toArray, set_cons_zero, set_cons_succ]
        refine Vs.s_fromVs rfl rfl (.tmp 25) (.tmp 27) rfl (some ⟨g, off, none⟩) l c (k + 1) rfl rfl hk ?_
        simp only [Act.put, getElem_toArray, getElem_cons_zero, getElem_cons_succ, setIfInBounds_toArray, set_cons_zero, set_cons_succ]
        refine o_ldc naSS rfl rfl (.tmp 19) ⟨b2, 1, none⟩ (.slice (some ⟨g, off, none⟩) l c) rfl rfl (H.out.at1.cell 1 (by simp)) trivial ?_
        simp only [Act.put, getElem_toArray, getElem_cons_zero, getElem_cons_succ, setIfInBounds_toArray, set_cons_zero, set_cons_succ]
        refine Vs.s_toVs rfl rfl (.tmp 20) (.tmp 21) rfl (some ⟨g, off, none⟩) l c k rfl rfl hkc ?_
        simp only [Act.put, getElem_toArray, getElem_cons_zero, getElem_cons_succ, setIfInBounds_toArray, set_cons_zero, set_cons_succ]
        refine Vs.o_appVs rfl rfl (.tmp 18) (.tmp 22) rfl _ _ _ ([]) ((strV L).take k) rfl rfl HO.out (HT.out.to H.out.below) (fun x hx => Vs.one_strV L x (List.mem_of_mem_take hx)) HBU.out.size (by have := HLL.out; simp [strV_length] <;> omega) ?_
        intro v23 Wv23 ho hg hat
        refine ⟨trivial, ?_⟩
        replace HBU := hidp (HBU.out.trans ((Below.refl _ _).grown hg HBU.out.size fun k hk => (World.ownsRow.lt HO.out k hk).1))
        clear H HO
        have H := hidp (HU.out.call HBU.out)
        have HO := hidp (show OwnV _ _ _ v23 ((strV L).take k) from by rw [List.nil_append] at ho; exact ho)
        clear ho hg hat
        simp only [Act.put, getElem_toArray, getElem_cons_zero, getElem_cons_succ, setIfInBounds_toArray, set_cons_zero, set_cons_succ]
        refine Vs.o_appVs rfl rfl (.tmp 23) (.tmp 28) rfl _ _ _ ((strV L).take k) ((strV L).drop (k + 1)) rfl rfl HO.out (HD.out.to H.out.below) (fun x hx => Vs.one_strV L x (List.mem_of_mem_drop hx)) HBU.out.size (by have := HLL.out; simp [strV_length] <;> omega) ?_
        intro v29 Wv29 ho hg hat
        refine ⟨trivial, ?_⟩
        replace HBU := hidp (HBU.out.trans ((Below.refl _ _).grown hg HBU.out.size fun k hk => (World.ownsRow.lt HO.out k hk).1))
        clear H HO
        have H := hidp (HU.out.call HBU.out)
        have HO := hidp (show OwnV _ _ _ v29 (strV (L.eraseIdx k)) from by rw [HLE.out]; exact ho)
        have hone := VsAt.oneCell (Vs.VsAt.own ho)
        clear ho hg hat
        simp only [Act.put, getElem_toArray, getElem_cons_zero, getElem_cons_succ, setIfInBounds_toArray, set_cons_zero, set_cons_succ]
        apply s_val
        case ho | hw => rfl
        case hv => intro w hw; go_simp; first | done | rfl
        simp only [Act.put, getElem_toArray, getElem_cons_zero, getElem_cons_succ, setIfInBounds_toArray, set_cons_zero, set_cons_succ]
        refine o_putFi H 1 rfl 1 v29 (fun _ => trivial) rfl rfl (.tmp 30) (.tmp 29) rfl rfl rfl (by kernel_rfl) hone (by simp) ?_
        intro _ H2 st
        have HO2 := hidp (Sl.own_stp HO.out st H.out.at1 (by decide))
        clear H HO st
        have H : Hid (Mm.M w.heap.size w _ ([⟨b4, 30, [.int .i64 0, .slice none 0 0, .int .i64 0]⟩, ⟨b2, 30, [.int .i64 m, v29, .int .i64 n]⟩])) := H2
        have HO := HO2
        clear H2 HO2
        simp only [Act.put, getElem_toArray, getElem_cons_zero, getElem_cons_succ, setIfInBounds_toArray, set_cons_zero, set_cons_succ]
        refine NoPanic.normal ?_
        have tk0 := hidp trivial
        go_wp2_with (first | (clear tk0; (refine Mm.get1 rtRN H rfl (.tmp 2) rfl rfl rfl ?_); (try simp only [Act.put, setIfInBounds_toArray, set_cons_zero, set_cons_succ]); have tk1 := hidp trivial) | (clear tk1; (refine Mm.put0 rtRN H rfl (.tmp 4) (.tmp 31) [.int .i64 m, v29, .int .i64 n] rfl rfl rfl rfl (by intro u hu; simp only [List.mem_cons, List.not_mem_nil, or_false] at hu; rcases hu with rfl | rfl | rfl <;> first | rfl | exact hone) rfl ?_; intro _ H2 st; replace HO := hidp (Sl.own_stp HO.out st H.out.at0 (by decide)); clear st H; have H := H2; clear H2); (try simp only [Act.put, setIfInBounds_toArray, set_cons_zero, set_cons_succ]); have tk2 := hidp trivial))
        try clear tk2
        refine bodyPost_ret (ret_rowvv rtRN Try.results12 _ b4 _ _ _ rfl rfl rfl H.out.at0 rfl) rfl ⟨v29, by rw [HE.out]; rfl, by rw [HL.out]; exact Vs.VsAt.own HO.out, fun g hg => .inr (Nat.le_trans HGE.out (Vs.own_blk HO.out hg)), H.out.below⟩
    · refine o_ldc naSS rfl rfl (.tmp 19) ⟨b2, 1, none⟩ (.slice (some ⟨g, off, none⟩) l c) rfl rfl (H.out.at1.cell 1 (by simp)) trivial ?_
      simp only [Act.put, getElem_toArray, getElem_cons_zero, getElem_cons_succ, setIfInBounds_toArray, set_cons_zero, set_cons_succ]
      refine Vs.s_toVs rfl rfl (.tmp 20) (.tmp 21) rfl (some ⟨g, off, none⟩) l c k rfl rfl hkc ?_
      simp only [Act.put, getElem_toArray, getElem_cons_zero, getElem_cons_succ, setIfInBounds_toArray, set_cons_zero, set_cons_succ]
      refine ⟨?_, ?_⟩
      · refine Vs.o_bs0S rfl rfl rfl ?_
        intro b18 W18 n18
        refine ⟨trivial, ?_⟩
        have HU := H
        have HGE := hidp HU.out.le
        have HBU := hidp n18.below
        have HO := hidp (Vs.own_bs0 n18.arr n18.le)
        clear H
        have H := hidp (HU.out.call HBU.out)
        clear n18
        simp only [Act.put, getElem_toArray, getElem_cons_zero, getElem_cons_succ, setIfInBounds_toArray, set_cons_zero, set_cons_succ]
        refine ⟨?_, ?_⟩
        · refine Vs.o_appVs rfl rfl (.tmp 18) (.tmp 22) rfl _ _ _ ([]) ((strV L).take k) rfl rfl HO.out (HT.out.to H.out.below) (fun x hx => Vs.one_strV L x (List.mem_of_mem_take hx)) HBU.out.size (by have := HLL.out; simp [strV_length] <;> omega) ?_
          intro v23 Wv23 ho hg hat
          refine ⟨trivial, ?_⟩
          replace HBU := hidp (HBU.out.trans ((Below.refl _ _).grown hg HBU.out.size fun k hk => (World.ownsRow.lt HO.out k hk).1))
          clear H HO
          have H := hidp (HU.out.call HBU.out)
          have HO := hidp (show OwnV _ _ _ v23 ((strV L).take k) from by rw [List.nil_append] at ho; exact ho)
          clear ho hg hat
          simp only [Act.put, getElem_toArray, getElem_cons_zero, getElem_cons_succ, setIfInBounds_toArray, set_cons_zero, set_cons_succ]
          refine o_ldc naSS rfl rfl (.tmp 24) ⟨b2, 1, none⟩ (.slice (some ⟨g, off, none⟩) l c) rfl rfl (H.out.at1.cell 1 (by simp)) trivial ?_
          simp only [Act.put, getElem_toArray, getElem_cons_zero, getElem_cons_succ, setIfInBounds_toArray, set_cons_zero, set_cons_succ]
          refine Vs.s_fromVs rfl rfl (.tmp 25) (.tmp 27) rfl (some ⟨g, off, none⟩) l c (k + 1) rfl rfl hk ?_
          simp only [Act.put, getElem_toArray, getElem_cons_zero, getElem_cons_succ, setIfInBounds_toArray, set_cons_zero, set_cons_succ]
          refine Vs.o_appVs rfl rfl (.tmp 23) (.tmp 28) rfl _ _ _ ((strV L).take k) ((strV L).drop (k + 1)) rfl rfl HO.out (HD.out.to H.out.below) (fun x hx => Vs.one_strV L x (List.mem_of_mem_drop hx)) HBU.out.size (by have := HLL.out; simp [strV_length] <;> omega) ?_
          intro v29 Wv29 ho hg hat
          refine ⟨trivial, ?_⟩
          replace HBU := hidp (HBU.out.trans ((Below.refl _ _).grown hg HBU.out.size fun k hk => (World.ownsRow.lt HO.out k hk).1))
          clear H HO
          have H := hidp (HU.out.call HBU.out)
          have HO := hidp (show OwnV _ _ _ v29 (strV (L.eraseIdx k)) from by rw [HLE.out]; exact ho)
          have hone := VsAt.oneCell (Vs.VsAt.own ho)
          clear ho hg hat
          simp only [Act.put, getElem_toArray, getElem_cons_zero, getElem_cons_succ, setIfInBounds_toArray, set_cons_zero, set_cons_succ]
          apply s_val
          case ho | hw => rfl
          case hv => intro w hw; go_simp; first | done | rfl
          simp only [Act.put, getElem_toArray, getElem_cons_zero, getElem_cons_succ, setIfInBounds_toArray, set_cons_zero, set_cons_succ]
          refine o_putFi H 1 rfl 1 v29 (fun _ => trivial) rfl rfl (.tmp 30) (.tmp 29) rfl rfl rfl (by kernel_rfl) hone (by simp) ?_
          intro _ H2 st
          have HO2 := hidp (Sl.own_stp HO.out st H.out.at1 (by decide))
          clear H HO st
          have H : Hid (Mm.M w.heap.size w _ ([⟨b4, 30, [.int .i64 0, .slice none 0 0, .int .i64 0]⟩, ⟨b2, 30, [.int .i64 m, v29, .int .i64 n]⟩])) := H2
          have HO := HO2
          clear H2 HO2
          simp only [Act.put, getElem_toArray, getElem_cons_zero, getElem_cons_succ, setIfInBounds_toArray, set_cons_zero, set_cons_succ]
          refine NoPanic.normal ?_
          have tk0 := hidp trivial
          go_wp2_with (first | (clear tk0; (refine Mm.get1 rtRN H rfl (.tmp 2) rfl rfl rfl ?_); (try simp only [Act.put, setIfInBounds_toArray, set_cons_zero, set_cons_succ]); have tk1 := hidp trivial) | (clear tk1; (refine Mm.put0 rtRN H rfl (.tmp 4) (.tmp 31) [.int .i64 m, v29, .int .i64 n] rfl rfl rfl rfl (by intro u hu; simp only [List.mem_cons, List.not_mem_nil, or_false] at hu; rcases hu with rfl | rfl | rfl <;> first | rfl | exact hone) rfl ?_; intro _ H2 st; replace HO := hidp (Sl.own_stp HO.out st H.out.at0 (by decide)); clear st H; have H := H2; clear H2); (try simp only [Act.put, setIfInBounds_toArray, set_cons_zero, set_cons_succ]); have tk2 := hidp trivial))
          try clear tk2
          refine bodyPost_ret (ret_rowvv rtRN Try.results12 _ b4 _ _ _ rfl rfl rfl H.out.at0 rfl) rfl ⟨v29, by rw [HE.out]; rfl, by rw [HL.out]; exact Vs.VsAt.own HO.out, fun g hg => .inr (Nat.le_trans HGE.out (Vs.own_blk HO.out hg)), H.out.below⟩
        · refine o_ldc naSS rfl rfl (.tmp 24) ⟨b2, 1, none⟩ (.slice (some ⟨g, off, none⟩) l c) rfl rfl (H.out.at1.cell 1 (by simp)) trivial ?_
          simp only [Act.put, getElem_toArray, getElem_cons_zero, getElem_cons_succ, setIfInBounds_toArray, set_cons_zero, set_cons_succ]
          refine Vs.s_fromVs rfl rfl (.tmp 25) (.tmp 27) rfl (some ⟨g, off, none⟩) l c (k + 1) rfl rfl hk ?_
          simp only [Act.put, getElem_toArray, getElem_cons_zero, getElem_cons_succ, setIfInBounds_toArray, set_cons_zero, set_cons_succ]
          refine Vs.o_appVs rfl rfl (.tmp 18) (.tmp 22) rfl _ _ _ ([]) ((strV L).take k) rfl rfl HO.out (HT.out.to H.out.below) (fun x hx => Vs.one_strV L x (List.mem_of_mem_take hx)) HBU.out.size (by have := HLL.out; simp [strV_length] <;> omega) ?_
          intro v23 Wv23 ho hg hat
          refine ⟨trivial, ?_⟩
          replace HBU := hidp (HBU.out.trans ((Below.refl _ _).grown hg HBU.out.size fun k hk => (World.ownsRow.lt HO.out k hk).1))
          clear H HO
          have H := hidp (HU.out.call HBU.out)
          have HO := hidp (show OwnV _ _ _ v23 ((strV L).take k) from by rw [List.nil_append] at ho; exact ho)
          clear ho hg hat
          simp only [Act.put, getElem_toArray, getElem_cons_zero, getElem_cons_succ, setIfInBounds_toArray, set_cons_zero, set_cons_succ]
          refine Vs.o_appVs rfl rfl (.tmp 23) (.tmp 28) rfl _ _ _ ((strV L).take k) ((strV L).drop (k + 1)) rfl rfl HO.out (HD.out.to H.out.below) (fun x hx => Vs.one_strV L x (List.mem_of_mem_drop hx)) HBU.out.size (by have := HLL.out; simp [strV_length] <;> omega) ?_
          intro v29 Wv29 ho hg hat
          refine ⟨trivial, ?_⟩
          replace HBU := hidp (HBU.out.trans ((Below.refl _ _).grown hg HBU.out.size fun k hk => (World.ownsRow.lt HO.out k hk).1))
          clear H HO
          have H := hidp (HU.out.call HBU.out)
          have HO := hidp (show OwnV _ _ _ v29 (strV (L.eraseIdx k)) from by rw [HLE.out]; exact ho)
          have hone := VsAt.oneCell (Vs.VsAt.own ho)
          clear ho hg hat
          simp only [Act.put, getElem_toArray, getElem_cons_zero, getElem_cons_succ, setIfInBounds_toArray, set_cons_zero, set_cons_succ]
          apply s_val
          case ho | hw => rfl
          case hv => intro w hw; go_simp; first | done | rfl
          simp only [Act.put, getElem_toArray, getElem_cons_zero, getElem_cons_succ, setIfInBounds_toArray, set_cons_zero, set_cons_succ]
          refine o_putFi H 1 rfl 1 v29 (fun _ => trivial) rfl rfl (.tmp 30) (.tmp 29) rfl rfl rfl (by kernel_rfl) hone (by simp) ?_
          intro _ H2 st
          have HO2 := hidp (Sl.own_stp HO.out st H.out.at1 (by decide))
          clear H HO st
          have H : Hid (Mm.M w.heap.size w _ ([⟨b4, 30, [.int .i64 0, .slice none 0 0, .int .i64 0]⟩, ⟨b2, 30, [.int .i64 m, v29, .int .i64 n]⟩])) := H2
          have HO := HO2
          clear H2 HO2
          simp only [Act.put, getElem_toArray, getElem_cons_zero, getElem_cons_succ, setIfInBounds_toArray, set_cons_zero, set_cons_succ]
          refine NoPanic.normal ?_
          have tk0 := hidp trivial
          go_wp2_with (first | (clear tk0; (refine Mm.get1 rtRN H rfl (.tmp 2) rfl rfl rfl ?_); (try simp only [Act.put, setIfInBounds_toArray, set_cons_zero, set_cons_succ]); have tk1 := hidp trivial) | (clear tk1; (refine Mm.put0 rtRN H rfl (.tmp 4) (.tmp 31) [.int .i64 m, v29, .int .i64 n] rfl rfl rfl rfl (by intro u hu; simp only [List.mem_cons, List.not_mem_nil, or_false] at hu; rcases hu with rfl | rfl | rfl <;> first | rfl | exact hone) rfl ?_; intro _ H2 st; replace HO := hidp (Sl.own_stp HO.out st H.out.at0 (by decide)); clear st H; have H := H2; clear H2); (try simp only [Act.put, setIfInBounds_toArray, set_cons_zero, set_cons_succ]); have tk2 := hidp trivial))
          try clear tk2
          refine bodyPost_ret (ret_rowvv rtRN Try.results12 _ b4 _ _ _ rfl rfl rfl H.out.at0 rfl) rfl ⟨v29, by rw [HE.out]; rfl, by rw [HL.out]; exact Vs.VsAt.own HO.out, fun g hg => .inr (Nat.le_trans HGE.out (Vs.own_blk HO.out hg)), H.out.below⟩
      · refine o_ldc naSS rfl rfl (.tmp 24) ⟨b2, 1, none⟩ (.slice (some ⟨g, off, none⟩) l c) rfl rfl (H.out.at1.cell 1 (by simp)) trivial ?_
        simp only [Act.put, getElem_toArray, getElem_cons_zero, getElem_cons_succ, setIfInBounds_toArray, set_cons_zero, set_cons_succ]
        refine Vs.s_fromVs rfl rfl (.tmp 25) (.tmp 27) rfl (some ⟨g, off, none⟩) l c (k + 1) rfl rfl hk ?_
        simp only [Act.put, getElem_toArray, getElem_cons_zero, getElem_cons_succ, setIfInBounds_toArray, set_cons_zero, set_cons_succ]
        refine Vs.o_bs0S rfl rfl rfl ?_
        intro b18 W18 n18
        refine ⟨trivial, ?_⟩
        have HU := H
        have HGE := hidp HU.out.le
        have HBU := hidp n18.below
        have HO := hidp (Vs.own_bs0 n18.arr n18.le)
        clear H
        have H := hidp (HU.out.call HBU.out)
        clear n18
        simp only [Act.put, getElem_toArray, getElem_cons_zero, getElem_cons_succ, setIfInBounds_toArray, set_cons_zero, set_cons_succ]
        refine Vs.o_appVs rfl rfl (.tmp 18) (.tmp 22) rfl _ _ _ ([]) ((strV L).take k) rfl rfl HO.out (HT.out.to H.out.below) (fun x hx => Vs.one_strV L x (List.mem_of_mem_take hx)) HBU.out.size (by have := HLL.out; simp [strV_length] <;> omega) ?_
        intro v23 Wv23 ho hg hat
        refine ⟨trivial, ?_⟩
        replace HBU := hidp (HBU.out.trans ((Below.refl _ _).grown hg HBU.out.size fun k hk => (World.ownsRow.lt HO.out k hk).1))
        clear H HO
        have H := hidp (HU.out.call HBU.out)
        have HO := hidp (show OwnV _ _ _ v23 ((strV L).take k) from by rw [List.nil_append] at ho; exact ho)
        clear ho hg hat
        simp only [Act.put, getElem_toArray, getElem_cons_zero, getElem_cons_succ, setIfInBounds_toArray, set_cons_zero, set_cons_succ]
        refine Vs.o_appVs rfl rfl (.tmp 23) (.tmp 28) rfl _ _ _ ((strV L).take k) ((strV L).drop (k + 1)) rfl rfl HO.out (HD.out.to H.out.below) (fun x hx => Vs.one_strV L x (List.mem_of_mem_drop hx)) HBU.out.size (by have := HLL.out; simp [strV_length] <;> omega) ?_
        intro v29 Wv29 ho hg hat
        refine ⟨trivial, ?_⟩
        replace HBU := hidp (HBU.out.trans ((Below.refl _ _).grown hg HBU.out.size fun k hk => (World.ownsRow.lt HO.out k hk).1))
        clear H HO
        have H := hidp (HU.out.call HBU.out)
        have HO := hidp (show OwnV _ _ _ v29 (strV (L.eraseIdx k)) from by rw [HLE.out]; exact ho)
        have hone := VsAt.oneCell (Vs.VsAt.own ho)
        clear ho hg hat
        simp only [Act.put, getElem_toArray, getElem_cons_zero, getElem_cons_succ, setIfInBounds_toArray, set_cons_zero, set_cons_succ]
        apply s_val
        case ho | hw => rfl
        case hv => intro w hw; go_simp; first | done | rfl
        simp only [Act.put, getElem_toArray, getElem_cons_zero, getElem_cons_succ, setIfInBounds_toArray, set_cons_zero, set_cons_succ]
        refine o_putFi H 1 rfl 1 v29 (fun _ => trivial) rfl rfl (.tmp 30) (.tmp 29) rfl rfl rfl (by kernel_rfl) hone (by simp) ?_
        intro _ H2 st
        have HO2 := hidp (Sl.own_stp HO.out st H.out.at1 (by decide))
        clear H HO st
        have H : Hid (Mm.M w.heap.size w _ ([⟨b4, 30, [.int .i64 0, .slice none 0 0, .int .i64 0]⟩, ⟨b2, 30, [.int .i64 m, v29, .int .i64 n]⟩])) := H2
        have HO := HO2
        clear H2 HO2
        simp only [Act.put, getElem_toArray, getElem_cons_zero, getElem_cons_succ, setIfInBounds_toArray, set_cons_zero, set_cons_succ]
        refine NoPanic.normal ?_
        have tk0 := hidp trivial
        go_wp2_with (first | (clear tk0; (refine Mm.get1 rtRN H rfl (.tmp 2) rfl rfl rfl ?_); (try simp only [Act.put, setIfInBounds_toArray, set_cons_zero, set_cons_succ]); have tk1 := hidp trivial) | (clear tk1; (refine Mm.put0 rtRN H rfl (.tmp 4) (.tmp 31) [.int .i64 m, v29, .int .i64 n] rfl rfl rfl rfl (by intro u hu; simp only [List.mem_cons, List.not_mem_nil, or_false] at hu; rcases hu with rfl | rfl | rfl <;> first | rfl | exact hone) rfl ?_; intro _ H2 st; replace HO := hidp (Sl.own_stp HO.out st H.out.at0 (by decide)); clear st H; have H := H2; clear H2); (try simp only [Act.put, setIfInBounds_toArray, set_cons_zero, set_cons_succ]); have tk2 := hidp trivial))
        try clear tk2
        refine bodyPost_ret (ret_rowvv rtRN Try.results12 _ b4 _ _ _ rfl rfl rfl H.out.at0 rfl) rfl ⟨v29, by rw [HE.out]; rfl, by rw [HL.out]; exact Vs.VsAt.own HO.out, fun g hg => .inr (Nat.le_trans HGE.out (Vs.own_blk HO.out hg)), H.out.below⟩
    · refine o_ldc naSS rfl rfl (.tmp 24) ⟨b2, 1, none⟩ (.slice (some ⟨g, off, none⟩) l c) rfl rfl (H.out.at1.cell 1 (by simp)) trivial ?_
      simp only [Act.put, getElem_toArray, getElem_cons_zero, getElem_cons_succ, setIfInBounds_toArray, set_cons_zero, set_cons_succ]
      refine Vs.s_fromVs rfl rfl (.tmp 25) (.tmp 27) rfl (some ⟨g, off, none⟩) l c (k + 1) rfl rfl hk ?_
      simp only [Act.put, getElem_toArray, getElem_cons_zero, getElem_cons_succ, setIfInBounds_toArray, set_cons_zero, set_cons_succ]
      refine ⟨?_, ?_⟩
      · refine Vs.o_bs0S rfl rfl rfl ?_
        intro b18 W18 n18
        refine ⟨trivial, ?_⟩
        have HU := H
        have HGE := hidp HU.out.le
        have HBU := hidp n18.below
        have HO := hidp (Vs.own_bs0 n18.arr n18.le)
        clear H
        have H := hidp (HU.out.call HBU.out)
        clear n18
        simp only [Act.put, getElem_toArray, getElem_cons_zero, getElem_cons_succ, setIfInBounds_toArray, set_cons_zero, set_cons_succ]
        refine o_ldc naSS rfl rfl (.tmp 19) ⟨b2, 1, none⟩ (.slice (some ⟨g, off, none⟩) l c) rfl rfl (H.out.at1.cell 1 (by simp)) trivial ?_
        simp only [Act.put, getElem_toArray, getElem_cons_zero, getElem_cons_succ, setIfInBounds_toArray, set_cons_zero, set_cons_succ]
        refine Vs.s_toVs rfl rfl (.tmp 20) (.tmp 21) rfl (some ⟨g, off, none⟩) l c k rfl rfl hkc ?_
        simp only [Act.put, getElem_toArray, getElem_cons_zero, getElem_cons_succ, setIfInBounds_toArray, set_cons_zero, set_cons_succ]
        refine Vs.o_appVs rfl rfl (.tmp 18) (.tmp 22) rfl _ _ _ ([]) ((strV L).take k) rfl rfl HO.out (HT.out.to H.out.below) (fun x hx => Vs.one_strV L x (List.mem_of_mem_take hx)) HBU.out.size (by have := HLL.out; simp [strV_length] <;> omega) ?_
        intro v23 Wv23 ho hg hat
        refine ⟨trivial, ?_⟩
        replace HBU := hidp (HBU.out.trans ((Below.refl _ _).grown hg HBU.out.size fun k hk => (World.ownsRow.lt HO.out k hk).1))
        clear H HO
        have H := hidp (HU.out.call HBU.out)
        have HO := hidp (show OwnV _ _ _ v23 ((strV L).take k) from by rw [List.nil_append] at ho; exact ho)
        clear ho hg hat
        simp only [Act.put, getElem_toArray, getElem_cons_zero, getElem_cons_succ, setIfInBounds_toArray, set_cons_zero, set_cons_succ]
        refine Vs.o_appVs rfl rfl (.tmp 23) (.tmp 28) rfl _ _ _ ((strV L).take k) ((strV L).drop (k + 1)) rfl rfl HO.out (HD.out.to H.out.below) (fun x hx => Vs.one_strV L x (List.mem_of_mem_drop hx)) HBU.out.size (by have := HLL.out; simp [strV_length] <;> omega) ?_
        intro v29 Wv29 ho hg hat
        refine ⟨trivial, ?_⟩
        replace HBU := hidp (HBU.out.trans ((Below.refl _ _).grown hg HBU.out.size fun k hk => (World.ownsRow.lt HO.out k hk).1))
        clear H HO
        have H := hidp (HU.out.call HBU.out)
        have HO := hidp (show OwnV _ _ _ v29 (strV (L.eraseIdx k)) from by rw [HLE.out]; exact ho)
        have hone := VsAt.oneCell (Vs.VsAt.own ho)
        clear ho hg hat
        simp only [Act.put, getElem_toArray, getElem_cons_zero, getElem_cons_succ, setIfInBounds_toArray, set_cons_zero, set_cons_succ]
        apply s_val
        case ho | hw => rfl
        case hv => intro w hw; go_simp; first | done | rfl
        simp only [Act.put, getElem_toArray, getElem_cons_zero, getElem_cons_succ, setIfInBounds_toArray, set_cons_zero, set_cons_succ]
        refine o_putFi H 1 rfl 1 v29 (fun _ => trivial) rfl rfl (.tmp 30) (.tmp 29) rfl rfl rfl (by kernel_rfl) hone (by simp) ?_
        intro _ H2 st
        have HO2 := hidp (Sl.own_stp HO.out st H.out.at1 (by decide))
        clear H HO st
        have H : Hid (Mm.M w.heap.size w _ ([⟨b4, 30, [.int .i64 0, .slice none 0 0, .int .i64 0]⟩, ⟨b2, 30, [.int .i64 m, v29, .int .i64 n]⟩])) := H2
        have HO := HO2
        clear H2 HO2
        simp only [Act.put, getElem_toArray, getElem_cons_zero, getElem_cons_succ, setIfInBounds_toArray, set_cons_zero, set_cons_succ]
        refine NoPanic.normal ?_
        have tk0 := hidp trivial
        go_wp2_with (first | (clear tk0; (refine Mm.get1 rtRN H rfl (.tmp 2) rfl rfl rfl ?_); (try simp only [Act.put, setIfInBounds_toArray, set_cons_zero, set_cons_succ]); have tk1 := hidp trivial) | (clear tk1; (refine Mm.put0 rtRN H rfl (.tmp 4) (.tmp 31) [.int .i64 m, v29, .int .i64 n] rfl rfl rfl rfl (by intro u hu; simp only [List.mem_cons, List.not_mem_nil, or_false] at hu; rcases hu with rfl | rfl | rfl <;> first | rfl | exact hone) rfl ?_; intro _ H2 st; replace HO := hidp (Sl.own_stp HO.out st H.out.at0 (by decide)); clear st H; have H := H2; clear H2); (try simp only [Act.put, setIfInBounds_toArray, set_cons_zero, set_cons_succ]); have tk2 := hidp trivial))
        try clear tk2
        refine bodyPost_ret (ret_rowvv rtRN Try.results12 _ b4 _ _ _ rfl rfl rfl H.out.at0 rfl) rfl ⟨v29, by rw [HE.out]; rfl, by rw [HL.out]; exact Vs.VsAt.own HO.out, fun g hg => .inr (Nat.le_trans HGE.out (Vs.own_blk HO.out hg)), H.out.below⟩
      · refine o_ldc naSS rfl rfl (.tmp 19) ⟨b2, 1, none⟩ (.slice (some ⟨g, off, none⟩) l c) rfl rfl (H.out.at1.cell 1 (by simp)) trivial ?_
        simp only [Act.put, getElem_toArray, getElem_cons_zero, getElem_cons_succ, setIfInBounds_toArray, set_cons_zero, set_cons_succ]
        refine Vs.s_toVs rfl rfl (.tmp 20) (.tmp 21) rfl (some ⟨g, off, none⟩) l c k rfl rfl hkc ?_
        simp only [Act.put, getElem_toArray, getElem_cons_zero, getElem_cons_succ, setIfInBounds_toArray, set_cons_zero, set_cons_succ]
        refine Vs.o_bs0S rfl rfl rfl ?_
        intro b18 W18 n18
        refine ⟨trivial, ?_⟩
        have HU := H
        have HGE := hidp HU.out.le
        have HBU := hidp n18.below
        have HO := hidp (Vs.own_bs0 n18.arr n18.le)
        clear H
        have H := hidp (HU.out.call HBU.out)
        clear n18
        simp only [Act.put, getElem_toArray, getElem_cons_zero, getElem_cons_succ, setIfInBounds_toArray, set_cons_zero, set_cons_succ]
        refine Vs.o_appVs rfl rfl (.tmp 18) (.tmp 22) rfl _ _ _ ([]) ((strV L).take k) rfl rfl HO.out (HT.out.to H.out.below) (fun x hx => Vs.one_strV L x (List.mem_of_mem_take hx)) HBU.out.size (by have := HLL.out; simp [strV_length] <;> omega) ?_
        intro v23 Wv23 ho hg hat
        refine ⟨trivial, ?_⟩
        replace HBU := hidp (HBU.out.trans ((Below.refl _ _).grown hg HBU.out.size fun k hk => (World.ownsRow.lt HO.out k hk).1))
        clear H HO
        have H := hidp (HU.out.call HBU.out)
        have HO := hidp (show OwnV _ _ _ v23 ((strV L).take k) from by rw [List.nil_append] at ho; exact ho)
        clear ho hg hat
        simp only [Act.put, getElem_toArray, getElem_cons_zero, getElem_cons_succ, setIfInBounds_toArray, set_cons_zero, set_cons_succ]
        refine Vs.o_appVs rfl rfl (.tmp 23) (.tmp 28) rfl _ _ _ ((strV L).take k) ((strV L).drop (k + 1)) rfl rfl HO.out (HD.out.to H.out.below) (fun x hx => Vs.one_strV L x (List.mem_of_mem_drop hx)) HBU.out.size (by have := HLL.out; simp [strV_length] <;> omega) ?_
        intro v29 Wv29 ho hg hat
        refine ⟨trivial, ?_⟩
        replace HBU := hidp (HBU.out.trans ((Below.refl _ _).grown hg HBU.out.size fun k hk => (World.ownsRow.lt HO.out k hk).1))
        clear H HO
        have H := hidp (HU.out.call HBU.out)
        have HO := hidp (show OwnV _ _ _ v29 (strV (L.eraseIdx k)) from by rw [HLE.out]; exact ho)
        have hone := VsAt.oneCell (Vs.VsAt.own ho)
        clear ho hg hat
        simp only [Act.put, getElem_toArray, getElem_cons_zero, getElem_cons_succ, setIfInBounds_toArray, set_cons_zero, set_cons_succ]
        apply s_val
        case ho | hw => rfl
        case hv => intro w hw; go_simp; first | done | rfl
        simp only [Act.put, getElem_toArray, getElem_cons_zero, getElem_cons_succ, setIfInBounds_toArray, set_cons_zero, set_cons_succ]
        refine o_putFi H 1 rfl 1 v29 (fun _ => trivial) rfl rfl (.tmp 30) (.tmp 29) rfl rfl rfl (by kernel_rfl) hone (by simp) ?_
        intro _ H2 st
        have HO2 := hidp (Sl.own_stp HO.out st H.out.at1 (by decide))
        clear H HO st
        have H : Hid (Mm.M w.heap.size w _ ([⟨b4, 30, [.int .i64 0, .slice none 0 0, .int .i64 0]⟩, ⟨b2, 30, [.int .i64 m, v29, .int .i64 n]⟩])) := H2
        have HO := HO2
        clear H2 HO2
        simp only [Act.put, getElem_toArray, getElem_cons_zero, getElem_cons_succ, setIfInBounds_toArray, set_cons_zero, set_cons_succ]
        refine NoPanic.normal ?_
        have tk0 := hidp trivial
        go_wp2_with (first | (clear tk0; (refine Mm.get1 rtRN H rfl (.tmp 2) rfl rfl rfl ?_); (try simp only [Act.put, setIfInBounds_toArray, set_cons_zero, set_cons_succ]); have tk1 := hidp trivial) | (clear tk1; (refine Mm.put0 rtRN H rfl (.tmp 4) (.tmp 31) [.int .i64 m, v29, .int .i64 n] rfl rfl rfl rfl (by intro u hu; simp only [List.mem_cons, List.not_mem_nil, or_false] at hu; rcases hu with rfl | rfl | rfl <;> first | rfl | exact hone) rfl ?_; intro _ H2 st; replace HO := hidp (Sl.own_stp HO.out st H.out.at0 (by decide)); clear st H; have H := H2; clear H2); (try simp only [Act.put, setIfInBounds_toArray, set_cons_zero, set_cons_succ]); have tk2 := hidp trivial))
        try clear tk2
        refine bodyPost_ret (ret_rowvv rtRN Try.results12 _ b4 _ _ _ rfl rfl rfl H.out.at0 rfl) rfl ⟨v29, by rw [HE.out]; rfl, by rw [HL.out]; exact Vs.VsAt.own HO.out, fun g hg => .inr (Nat.le_trans HGE.out (Vs.own_blk HO.out hg)), H.out.below⟩
end Go.Proofs.Ytokakgjcegmabaa.Nt
