/-
  The document's boxes: laws of rows; New, Same.
-/
import Derived.Test.YtokakgjcegmabaaPoI
namespace Go.Proofs.Ytokakgjcegmabaa.Po
set_option maxRecDepth 100000
set_option linter.unusedVariables false
set_option linter.unusedSimpArgs false
open Go.RowKit
open List (getElem_toArray getElem_cons_zero getElem_cons_succ setIfInBounds_toArray set_cons_zero set_cons_succ)

open Go.Conc Go.Shelf Rw

def dR (room gap : Int) (v : Value) (last lost : Int) : List Value := [.int .i64 room, .int .i64 gap, v, .int .i64 last, .int .i64 lost]
theorem dR_one {room gap last lost : Int} {v : Value} (hv : v.oneCell' = true) : ∀ y ∈ dR room gap v last lost, y.oneCell' = true := by
  intro y hy
  simp only [dR, List.mem_cons, List.not_mem_nil, or_false] at hy
  rcases hy with rfl | rfl | rfl | rfl | rfl <;> first | rfl | exact hv
def zD : List Value := [.int .i64 0, .int .i64 0, .slice none 0 0, .int .i64 0, .int .i64 0]
theorem rtD : Rt.RT Try.prog 54 5 zD := ⟨rfl, .inl ⟨_, Try.underlying54⟩, by kernel_rfl⟩
def z1 : List Value := [.int .i64 0, .int .i64 0, .string ⟨#[]⟩, .int .i64 0]
theorem rt1 : Rt.RT Try.prog 92 4 z1 := ⟨rfl, .inl ⟨_, Try.underlying92⟩, by kernel_rfl⟩
theorem ty1 : RowTy Try.prog 52 92 4 40 z1 := by
  refine ⟨by omega, by omega, by omega, rfl, Try.underlying52, by kernel_rfl, ⟨_, Try.underlying92⟩, by kernel_rfl⟩
theorem na1S : Mm.NA Try.prog 52 := ⟨_, Try.underlying52, rfl⟩
/-- When it was due last, -1 for never. -/
def atD (x : Lt) : Int := if x.sent = true then x.at_ else -1
def Lt.one4 (x : Lt) : List Value := [.int .i64 x.id, .int .i64 x.to, .string x.tx, .int .i64 (atD x)]
theorem Lt.one41 (x : Lt) : ∀ v ∈ x.one4, v.oneCell' = true := by intro v hv; simp [Lt.one4] at hv; rcases hv with rfl | rfl | rfl | rfl <;> rfl
def ones (L : List Lt) : List (List Value) := L.map Lt.one4
theorem ones_all (L : List Lt) : AllK 4 (ones L) := fun e he => by obtain ⟨x, -, rfl⟩ := List.mem_map.1 he; rfl
theorem ones_one (L : List Lt) : One1 (ones L) := fun e he => by obtain ⟨x, -, rfl⟩ := List.mem_map.1 he; exact x.one41
theorem ones_len (L : List Lt) : (ones L).length = L.length := List.length_map _
theorem mls_len (L : List Lt) : (mls L).length = L.length := List.length_map _
theorem RsAt.oneC {k : Nat} {w : World} {v : Value} {es : List (List Value)} (h : RsAt k w v es) : v.oneCell' = true := by
  obtain ⟨a, c, rfl⟩ := h.form; rfl
theorem eqin_mail (W : World) (i j t u : Int) (s r : ByteArray) :
    (Op.equalIn 10000 75 (.agg #[.int .i64 i, .int .i64 t, .string s]) (.agg #[.int .i64 j, .int .i64 u, .string r])).run Try.prog W = .ok (i == j && (t == u && s.toList == r.toList)) W := by
  have ht : Try.prog.underlying 75 = some (.struct (Try.prog.fieldsOf 75)) := by kernel_rfl
  have hp : Try.prog.stoodInHeld 75 = false := by kernel_rfl
  have hu := Try.underlying75
  have hus := Try.underlying9
  have hui := Try.underlying3
  rw [run_equalIn_agg W 9999 _ _ _ ht hp]
  unfold Program.fieldsOf
  rw [hu]
  cases h1 : (i == j) <;> cases h2 : (t == u) <;> go_simp <;> simp_all <;> split <;> simp_all
theorem neq_mail (W : World) (i j t u : Int) (s r : ByteArray) : (binOp .neq 75 (.agg #[.int .i64 i, .int .i64 t, .string s]) (.agg #[.int .i64 j, .int .i64 u, .string r])).run Try.prog W = .ok (.bool (!(i == j && (t == u && s.toList == r.toList)))) W := by
  rw [run_neq_struct, eqin_mail]; rfl
theorem eql_mail (W : World) (i j t u : Int) (s r : ByteArray) : (binOp .eql 75 (.agg #[.int .i64 i, .int .i64 t, .string s]) (.agg #[.int .i64 j, .int .i64 u, .string r])).run Try.prog W = .ok (.bool (i == j && (t == u && s.toList == r.toList))) W := by
  rw [run_eql_struct, eqin_mail]; rfl
theorem grownM {N B e k : Nat} {w0 w W : World} {L : List Mm.Bx} {v : Value} {es : List (List Value)} (h : Mm.M N w0 w L) (hown : OwnR e k w B v es) (hg : w.grownBy W v.ownBlock) (hB : N ≤ B) (hn : ∀ x ∈ L, x.t ≠ e) : Mm.M N w0 W L :=
  ⟨h.below.trans ((Below.refl N w).grown hg h.le fun k hk => Nat.le_trans hB (World.ownsRow.lt hown.2 k hk).1), Nat.le_trans h.le hg.size, h.ge, h.inc, fun x hx => keepsR hown hg (h.has x hx) (hn x hx)⟩
theorem OwnR.empty {T k b B : Nat} {W : World} (ha : Arr W b T []) (hB : B ≤ b) : OwnR T k W B (.slice (some ⟨b, 0, none⟩) 0 0) [] :=
  ⟨AllK.nil, by simp, .inr ⟨b, 0, #[], rfl, hB, ha, Nat.le_refl _, by unfold maxLen; omega, by simp, by simp⟩⟩
section
variable {P : Program} {ST T k by_ : Nat} {z : List Value} {ops : Array Oper} {rest : List Oper} {o : Oper} {a : Act} {w : World} {Q : Exit → Act → World → Prop} {S : World → Prop} {j : Nat} {K : Act → World → Prop}
theorem run_bs0 (R : RowTy P ST T k by_ z) (w : World) : (Instr.buildSlice ST 0 #[]).run P w = .ok (.slice (some ⟨w.heap.size, 0, none⟩) 0 0) (w.alloc (.cells #[] T)) := by
  obtain ⟨i0, hi, hz0, hz1, hz2⟩ := info_parts R.info
  simp [Instr.buildSlice, run_underlying R.us, sizeOf, typeInfo, zeroValue, hi, hz0, hz1, newRow, Instr.fill, show Array.range 0 = #[] from rfl]
theorem wpL_bs0 (R : RowTy P ST T k by_ z) (hgd : o.guard = none) (ho : o.op = .buildSlice ST 0 #[])
    (h : ∀ b W, Rt.NewAt w W b T [] → wpList P ops Q rest (a.put o.dst (.slice (some ⟨b, 0, none⟩) 0 0)) W) : wpList P ops Q (o :: rest) a w := by
  refine wpList_plain hgd fun K hK => ?_
  have := hK _ _ (h w.heap.size (w.alloc (.cells #[] T)) (Rt.NewAt.mk' w T []))
  unfold Oper.wp execOp
  simp only [ho, List.map_toArray, List.map_nil, Sem.run_bind, run_bs0 R w, Result.andThen_ok]
  exact this
theorem o_bs0 (R : RowTy P ST T k by_ z) (ho : ops[j]? = some o) (hw : Region.wanted o (yielded ops a.tmps) = true) (hop : o.op = .buildSlice ST 0 #[])
    (h : ∀ b W, Rt.NewAt w W b T [] → S W ∧ K (a.put o.dst (.slice (some ⟨b, 0, none⟩) 0 0)) W) : opW P ops Q S j K a w := by
  refine ⟨o, ho, hw, ?_⟩
  have := h w.heap.size (w.alloc (.cells #[] T)) (Rt.NewAt.mk' w T [])
  unfold Oper.wp execOp
  simp only [hop, List.map_toArray, List.map_nil, Sem.run_bind, run_bs0 R w, Result.andThen_ok]
  exact this
theorem run_appQ (R : RowTy P ST T k by_ z) (ty : TypeId) (B : Nat) (v u : Value) (es fs : List (List Value)) (hown : OwnR T k w B v es) (hu : RsAt k w u fs) (h1 : One1 fs) (hB : B ≤ w.heap.size) (hn : es.length + fs.length ≤ 1048576) :
    ∃ v' W, (Builtin.append_ #[ST, ST] ty #[v, u]).run P w = .ok v' W ∧ OwnR T k W B v' (es ++ fs) ∧ w.grownBy W v.ownBlock := by
  obtain ⟨i0, hi, hz0, hz1, hz2⟩ := info_parts R.info
  rcases hu.2 with ⟨rfl, rfl⟩ | ⟨g, off, c, rfl, hc, hg, hr⟩
  · exact ⟨v, w, run_append_owned_none w B ST ty T i0 k R.us hi v es.length es.flatten hown.2, by simpa using hown, ⟨rfl, rfl, rfl, Nat.le_refl _, fun _ _ _ => rfl⟩⟩
  · have hb := R.bm
    have h2 : (es.length + fs.length) * by_ ≤ 1048576 * 65536 := Nat.mul_le_mul hn hb
    obtain ⟨v', w', hrun, r1, r2, r3, -⟩ := run_append_own_at (P := P) (w := w) B ST ty T i0 _ k by_ R.us hi hz0 hz1 hz2 (by simp [Value.cells, R.zl]) R.kp v es.length es.flatten hown.2 ⟨g, off, none⟩ fs.length c fs.flatten (by rw [flat_len hu.1, Nat.mul_comm])
      (fun j u hj => by rw [addr_addR]; exact hr j u hj) h1.flat (by unfold maxLen; omega) (by omega) hB
    refine ⟨v', w', hrun, ⟨hown.1.app hu.1, ?_⟩, r2⟩
    rw [List.length_append, List.flatten_append]; exact r1
theorem o_appQ (R : RowTy P ST T k by_ z) (ho : ops[j]? = some o) (hw : Region.wanted o (yielded ops a.tmps) = true) (s x : Operand) (hop : o.op = .call { callee := .builtin .append, args := #[s, x], argTypes := #[ST, ST] }) (B : Nat) (v u : Value) (es fs : List (List Value))
    (hv : a.eval s = v) (hx : a.eval x = u) (hown : OwnR T k w B v es) (hu : RsAt k w u fs) (h1 : One1 fs) (hB : B ≤ w.heap.size) (hn : es.length + fs.length ≤ 1048576)
    (h : ∀ v' W, OwnR T k W B v' (es ++ fs) → w.grownBy W v.ownBlock → S W ∧ K (a.put o.dst v') W) : opW P ops Q S j K a w := by
  obtain ⟨v', W, hrun, r1, r2⟩ := run_appQ R o.type B v u es fs hown hu h1 hB hn
  refine ⟨o, ho, hw, ?_⟩
  unfold Oper.wp
  simp [execOp, hop, resolve, invoke, builtin, hv, hx, hrun, Result.andThen]
  exact h v' W r1 r2
theorem wpL_appQ (R : RowTy P ST T k by_ z) (hgd : o.guard = none) (s x : Operand) (ho : o.op = .call { callee := .builtin .append, args := #[s, x], argTypes := #[ST, ST] }) (B : Nat) (v u : Value) (es fs : List (List Value))
    (hv : a.eval s = v) (hx : a.eval x = u) (hown : OwnR T k w B v es) (hu : RsAt k w u fs) (h1 : One1 fs) (hB : B ≤ w.heap.size) (hn : es.length + fs.length ≤ 1048576)
    (h : ∀ v' W, OwnR T k W B v' (es ++ fs) → w.grownBy W v.ownBlock → wpList P ops Q rest (a.put o.dst v') W) : wpList P ops Q (o :: rest) a w := by
  obtain ⟨v', W, hrun, r1, r2⟩ := run_appQ R o.type B v u es fs hown hu h1 hB hn
  exact wpL_appRun hgd s x ST ST ho v u hv hx hrun (h v' W r1 r2)
end

set_option maxHeartbeats 4000000 in
theorem rnew_any (w : World) (room gap : Int) : Calls Try.prog 24 #[.int .i64 room, .int .i64 gap] w fun e w' => e = .returned (.tuple #[.agg (dR room gap (.slice none 0 0) 0 0).toArray, .bool (newOk room gap)]) ∧ Below w.heap.size w w' := by
  have H := hidp (Mm.M.nil w)
  by_cases h1 : (1 : Int) ≤ room
  · have e1 : decide ((1 : Int) ≤ room) = true := decide_eq_true h1
    by_cases h2 : room ≤ 256
    · have e2 : decide (room ≤ 256) = true := decide_eq_true h2
      by_cases h3 : (1 : Int) ≤ gap
      · have e3 : decide ((1 : Int) ≤ gap) = true := decide_eq_true h3
        by_cases h4 : gap ≤ 1099511627776
        · have e4 : decide (gap ≤ 1099511627776) = true := decide_eq_true h4
          have HE := hidp (show newOk room gap = true from by unfold newOk; rw [e1, e2, e3, e4]; rfl)
          go_enter Try.func24, Try.ntmps24
          have tk0 := hidp trivial
          go_wp2_with (first | (clear tk0; (refine Mm.new rtD H (some 4) rfl rfl rfl ?_; clear H; intro b4 _ H nw; have hb := nw.below; clear hb nw); (try simp only [Act.put, setIfInBounds_toArray, set_cons_zero, set_cons_succ]); have tk1 := hidp trivial) | (clear tk1; (refine Rt.wpL_build rfl 54 _ rfl (dR room gap (.slice none 0 0) 0 0) (by kernel_rfl) ?_); (try simp only [Act.put, setIfInBounds_toArray, set_cons_zero, set_cons_succ]); have tk2 := hidp trivial) | (clear tk2; (refine Mm.put0 rtD H rfl (.tmp 4) (.tmp 8) (dR room gap (.slice none 0 0) 0 0) rfl rfl rfl rfl (dR_one rfl) rfl ?_; intro _ H2 st; clear st H; have H := H2; clear H2); (try simp only [Act.put, setIfInBounds_toArray, set_cons_zero, set_cons_succ]); have tk3 := hidp trivial))
          try clear tk3
          refine bodyPost_ret (Mm.ret_rowv rtD Try.results24 _ b4 _ _ rfl rfl H.out.at0 rfl) rfl ⟨by rw [HE.out]; rfl, H.out.below⟩
        · have e4 : decide (gap ≤ 1099511627776) = false := decide_eq_false h4
          have HE := hidp (show newOk room gap = false from by unfold newOk; rw [e1, e2, e3, e4]; simp)
          go_enter Try.func24, Try.ntmps24
          have tk0 := hidp trivial
          go_wp2_with (first | (clear tk0; (refine Mm.new rtD H (some 4) rfl rfl rfl ?_; clear H; intro b4 _ H nw; have hb := nw.below; clear hb nw); (try simp only [Act.put, setIfInBounds_toArray, set_cons_zero, set_cons_succ]); have tk1 := hidp trivial) | (clear tk1; (refine Rt.wpL_build rfl 54 _ rfl (dR room gap (.slice none 0 0) 0 0) (by kernel_rfl) ?_); (try simp only [Act.put, setIfInBounds_toArray, set_cons_zero, set_cons_succ]); have tk2 := hidp trivial) | (clear tk2; (refine Mm.put0 rtD H rfl (.tmp 4) (.tmp 8) (dR room gap (.slice none 0 0) 0 0) rfl rfl rfl rfl (dR_one rfl) rfl ?_; intro _ H2 st; clear st H; have H := H2; clear H2); (try simp only [Act.put, setIfInBounds_toArray, set_cons_zero, set_cons_succ]); have tk3 := hidp trivial))
          try clear tk3
          refine bodyPost_ret (Mm.ret_rowv rtD Try.results24 _ b4 _ _ rfl rfl H.out.at0 rfl) rfl ⟨by rw [HE.out]; rfl, H.out.below⟩
      · have e3 : decide ((1 : Int) ≤ gap) = false := decide_eq_false h3
        have HE := hidp (show newOk room gap = false from by unfold newOk; rw [e1, e2, e3]; simp)
        go_enter Try.func24, Try.ntmps24
        have tk0 := hidp trivial
        go_wp2_with (first | (clear tk0; (refine Mm.new rtD H (some 4) rfl rfl rfl ?_; clear H; intro b4 _ H nw; have hb := nw.below; clear hb nw); (try simp only [Act.put, setIfInBounds_toArray, set_cons_zero, set_cons_succ]); have tk1 := hidp trivial) | (clear tk1; (refine Rt.wpL_build rfl 54 _ rfl (dR room gap (.slice none 0 0) 0 0) (by kernel_rfl) ?_); (try simp only [Act.put, setIfInBounds_toArray, set_cons_zero, set_cons_succ]); have tk2 := hidp trivial) | (clear tk2; (refine Mm.put0 rtD H rfl (.tmp 4) (.tmp 8) (dR room gap (.slice none 0 0) 0 0) rfl rfl rfl rfl (dR_one rfl) rfl ?_; intro _ H2 st; clear st H; have H := H2; clear H2); (try simp only [Act.put, setIfInBounds_toArray, set_cons_zero, set_cons_succ]); have tk3 := hidp trivial))
        try clear tk3
        refine bodyPost_ret (Mm.ret_rowv rtD Try.results24 _ b4 _ _ rfl rfl H.out.at0 rfl) rfl ⟨by rw [HE.out]; rfl, H.out.below⟩
    · have e2 : decide (room ≤ 256) = false := decide_eq_false h2
      have HE := hidp (show newOk room gap = false from by unfold newOk; rw [e1, e2]; simp)
      go_enter Try.func24, Try.ntmps24
      have tk0 := hidp trivial
      go_wp2_with (first | (clear tk0; (refine Mm.new rtD H (some 4) rfl rfl rfl ?_; clear H; intro b4 _ H nw; have hb := nw.below; clear hb nw); (try simp only [Act.put, setIfInBounds_toArray, set_cons_zero, set_cons_succ]); have tk1 := hidp trivial) | (clear tk1; (refine Rt.wpL_build rfl 54 _ rfl (dR room gap (.slice none 0 0) 0 0) (by kernel_rfl) ?_); (try simp only [Act.put, setIfInBounds_toArray, set_cons_zero, set_cons_succ]); have tk2 := hidp trivial) | (clear tk2; (refine Mm.put0 rtD H rfl (.tmp 4) (.tmp 8) (dR room gap (.slice none 0 0) 0 0) rfl rfl rfl rfl (dR_one rfl) rfl ?_; intro _ H2 st; clear st H; have H := H2; clear H2); (try simp only [Act.put, setIfInBounds_toArray, set_cons_zero, set_cons_succ]); have tk3 := hidp trivial))
      try clear tk3
      refine bodyPost_ret (Mm.ret_rowv rtD Try.results24 _ b4 _ _ rfl rfl H.out.at0 rfl) rfl ⟨by rw [HE.out]; rfl, H.out.below⟩
  · have e1 : decide ((1 : Int) ≤ room) = false := decide_eq_false h1
    have HE := hidp (show newOk room gap = false from by unfold newOk; rw [e1]; simp)
    go_enter Try.func24, Try.ntmps24
    have tk0 := hidp trivial
    go_wp2_with (first | (clear tk0; (refine Mm.new rtD H (some 4) rfl rfl rfl ?_; clear H; intro b4 _ H nw; have hb := nw.below; clear hb nw); (try simp only [Act.put, setIfInBounds_toArray, set_cons_zero, set_cons_succ]); have tk1 := hidp trivial) | (clear tk1; (refine Rt.wpL_build rfl 54 _ rfl (dR room gap (.slice none 0 0) 0 0) (by kernel_rfl) ?_); (try simp only [Act.put, setIfInBounds_toArray, set_cons_zero, set_cons_succ]); have tk2 := hidp trivial) | (clear tk2; (refine Mm.put0 rtD H rfl (.tmp 4) (.tmp 8) (dR room gap (.slice none 0 0) 0 0) rfl rfl rfl rfl (dR_one rfl) rfl ?_; intro _ H2 st; clear st H; have H := H2; clear H2); (try simp only [Act.put, setIfInBounds_toArray, set_cons_zero, set_cons_succ]); have tk3 := hidp trivial))
    try clear tk3
    refine bodyPost_ret (Mm.ret_rowv rtD Try.results24 _ b4 _ _ rfl rfl H.out.at0 rfl) rfl ⟨by rw [HE.out]; rfl, H.out.below⟩

end Go.Proofs.Ytokakgjcegmabaa.Po
