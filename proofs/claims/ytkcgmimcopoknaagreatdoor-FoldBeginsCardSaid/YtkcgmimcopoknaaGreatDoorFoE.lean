
/-
  fold: Joined, Servers; equal lists.
-/
import Derived.Test.YtkcgmimcopoknaaGreatDoorFoD
import Derived.Test.YtkcgmimcopoknaaGreatDoorFoLib
import Derived.Shelf.RegionOpenPlain
import Derived.Deep.QuietTactic
namespace Go.Proofs.YtkcgmimcopoknaaGreatDoor
set_option maxRecDepth 100000
set_option linter.unusedVariables false
set_option linter.unusedSimpArgs false
open Go.RowKit Rw
open List (getElem_toArray getElem_cons_zero getElem_cons_succ setIfInBounds_toArray set_cons_zero set_cons_succ)

theorem info8 : (Tryz.prog.info? 3).map (fun i => (i.zero, i.size, i.bytes)) = some (some (.int .i64 0), 1, 8) := by kernel_rfl
theorem OwnV.empty {B b T : Nat} {W : World} (ha : Arr W b T []) (hB : B ≤ b) : OwnV W B T (.slice (some ⟨b, 0, none⟩) 0 0) [] :=
  ⟨rfl, .inr ⟨b, 0, #[], rfl, hB, ha, Nat.le_refl _, Nat.zero_le _, rfl, rfl⟩⟩
theorem OwnV.stp {w W : World} {B T b t : Nat} {v : Value} {l xs : List Value} (h : OwnV w B T v l) (st : Rt.Stp b w W) (ha : Arr w b t xs) (hne : t ≠ T) : OwnV W B T v l := by
  refine ⟨h.1, ?_⟩
  rcases h.2 with h0 | ⟨g, cap, cur, e, hB, hg, r⟩
  · exact .inl h0
  · refine .inr ⟨g, cap, cur, e, hB, (st.other g ?_).trans hg, r⟩
    rintro rfl
    have h1 : (Obj.cells cur T) = Obj.cells xs.toArray t := Option.some.inj (hg.symm.trans ha)
    injection h1 with _ h2
    exact hne h2.symm
section
variable {ops : Array Oper} {rest : List Oper} {o : Oper} {a : Act} {w w0 : World} {N : Nat} {L : List Mm.Bx} {Q : Exit → Act → World → Prop}
theorem run_oneS (s : ByteArray) (w : World) : (Instr.buildSlice 51 1 #[(0, .string s)]).run Tryz.prog w = .ok (.slice (some ⟨w.heap.size, 0, none⟩) 1 1) (w.alloc (.cells #[.string s] 9)) := by
  obtain ⟨i0, hi, hz0, hz1, hz2⟩ := info_parts info9
  refine run_buildSlice w 51 9 1 _ _ i0 _ Tryz.underlying51 hi hz0 (by rw [hz1]; omega) (by rw [hz1]; omega) ?_
  have hr : Array.range 1 = #[0] := by decide
  rw [hz1]; simp [Instr.fill, Value.cells, hr]
theorem wpL_oneS (H : Hid (Mm.M N w0 w L)) (hgd : o.guard = none) (x : Operand) (s : ByteArray) (ho : o.op = .buildSlice 51 1 #[(0, x)]) (hx : a.eval x = .string s)
    (h : ∀ b W, Hid (Mm.M N w0 W (⟨b, 9, [.string s]⟩ :: L)) → Rt.NewAt w W b 9 [.string s] → wpList Tryz.prog ops Q rest (a.put o.dst (.slice (some ⟨b, 0, none⟩) 1 1)) W) : wpList Tryz.prog ops Q (o :: rest) a w := by
  refine wpList_plain hgd fun K hK => ?_
  have n := Rt.NewAt.mk' w 9 [.string s]
  have := hK _ _ (h _ _ (hidp (H.out.new n)) n)
  unfold Oper.wp execOp
  simp only [ho, List.map_toArray, List.map_cons, List.map_nil, hx, Sem.run_bind, run_oneS s w, Result.andThen_ok]
  exact this
/-- The same where the operation is guarded, and wanted. -/
theorem wpL_oneGS (H : Hid (Mm.M N w0 w L)) (hw : Region.wanted o (yielded ops a.tmps) = true) (x : Operand) (s : ByteArray) (ho : o.op = .buildSlice 51 1 #[(0, x)]) (hx : a.eval x = .string s)
    (h : ∀ b W, Hid (Mm.M N w0 W (⟨b, 9, [.string s]⟩ :: L)) → Rt.NewAt w W b 9 [.string s] → wpList Tryz.prog ops Q rest (a.put o.dst (.slice (some ⟨b, 0, none⟩) 1 1)) W) : wpList Tryz.prog ops Q (o :: rest) a w := by
  refine wpList_step fun K hK => ?_
  rw [if_pos hw]
  have n := Rt.NewAt.mk' w 9 [.string s]
  have := hK _ _ (h _ _ (hidp (H.out.new n)) n)
  unfold Oper.wp execOp
  simp only [ho, List.map_toArray, List.map_cons, List.map_nil, hx, Sem.run_bind, run_oneS s w, Result.andThen_ok]
  exact this
theorem wpL_noneS (hgd : o.guard = none) (ho : o.op = .buildSlice 51 0 #[])
    (h : ∀ b W, Rt.NewAt w W b 9 [] → wpList Tryz.prog ops Q rest (a.put o.dst (.slice (some ⟨b, 0, none⟩) 0 0)) W) : wpList Tryz.prog ops Q (o :: rest) a w := by
  obtain ⟨i0, hi, hz0, hz1, hz2⟩ := info_parts info9
  refine wpList_plain hgd fun K hK => ?_
  have := hK _ _ (h w.heap.size (w.alloc (.cells #[] 9)) (Rt.NewAt.mk' w 9 []))
  unfold Oper.wp execOp
  simp only [ho, List.map_toArray, List.map_nil, Sem.run_bind]
  simp [Instr.buildSlice, run_underlying Tryz.underlying51, sizeOf, typeInfo, zeroValue, hi, hz0, hz1, newRow, Instr.fill, show Array.range 0 = #[] from rfl]
  exact this
theorem wpL_appS (hgd : o.guard = none) (s x : Operand) (ho : o.op = .call { callee := .builtin .append, args := #[s, x], argTypes := #[51, 51] }) (B : Nat) (v : Value) (l : List Value) (b t : Nat) (u : Value) (hs : a.eval s = v) (hx : a.eval x = .slice (some ⟨b, 0, none⟩) 1 1)
    (hown : OwnV w B 9 v l) (hc : Arr w b t [u]) (hu : u.oneCell' = true) (hlen : l.length ≤ 1000000) (hB : B ≤ w.heap.size)
    (h : ∀ v' w', OwnV w' B 9 v' (l ++ [u]) → Below B w w' → wpList Tryz.prog ops Q rest (a.put o.dst v') w') : wpList Tryz.prog ops Q (o :: rest) a w := by
  obtain ⟨i0, hi, hz0, hz1, hz2⟩ := info_parts info9
  exact wpList_appV hgd s x 51 ho B 9 i0 (.string ByteArray.empty) 16 Tryz.underlying51 hi hz0 hz1 hz2 rfl v l hs hown ⟨b, 0, none⟩ 1 u hx (hc.cell 0 (by simp)) hu (by simp [maxLen]; omega) (by omega) hB h
theorem run_oneI (s : Int) (w : World) : (Instr.buildSlice 74 1 #[(0, .int .i64 s)]).run Tryz.prog w = .ok (.slice (some ⟨w.heap.size, 0, none⟩) 1 1) (w.alloc (.cells #[.int .i64 s] 3)) := by
  obtain ⟨i0, hi, hz0, hz1, hz2⟩ := info_parts info8
  refine run_buildSlice w 74 3 1 _ _ i0 _ Tryz.underlying74 hi hz0 (by rw [hz1]; omega) (by rw [hz1]; omega) ?_
  have hr : Array.range 1 = #[0] := by decide
  rw [hz1]; simp [Instr.fill, Value.cells, hr]
theorem wpL_oneI (H : Hid (Mm.M N w0 w L)) (hgd : o.guard = none) (x : Operand) (s : Int) (ho : o.op = .buildSlice 74 1 #[(0, x)]) (hx : a.eval x = .int .i64 s)
    (h : ∀ b W, Hid (Mm.M N w0 W (⟨b, 3, [.int .i64 s]⟩ :: L)) → Rt.NewAt w W b 3 [.int .i64 s] → wpList Tryz.prog ops Q rest (a.put o.dst (.slice (some ⟨b, 0, none⟩) 1 1)) W) : wpList Tryz.prog ops Q (o :: rest) a w := by
  refine wpList_plain hgd fun K hK => ?_
  have n := Rt.NewAt.mk' w 3 [.int .i64 s]
  have := hK _ _ (h _ _ (hidp (H.out.new n)) n)
  unfold Oper.wp execOp
  simp only [ho, List.map_toArray, List.map_cons, List.map_nil, hx, Sem.run_bind, run_oneI s w, Result.andThen_ok]
  exact this
/-- The same where the operation is guarded, and wanted. -/
theorem wpL_oneGI (H : Hid (Mm.M N w0 w L)) (hw : Region.wanted o (yielded ops a.tmps) = true) (x : Operand) (s : Int) (ho : o.op = .buildSlice 74 1 #[(0, x)]) (hx : a.eval x = .int .i64 s)
    (h : ∀ b W, Hid (Mm.M N w0 W (⟨b, 3, [.int .i64 s]⟩ :: L)) → Rt.NewAt w W b 3 [.int .i64 s] → wpList Tryz.prog ops Q rest (a.put o.dst (.slice (some ⟨b, 0, none⟩) 1 1)) W) : wpList Tryz.prog ops Q (o :: rest) a w := by
  refine wpList_step fun K hK => ?_
  rw [if_pos hw]
  have n := Rt.NewAt.mk' w 3 [.int .i64 s]
  have := hK _ _ (h _ _ (hidp (H.out.new n)) n)
  unfold Oper.wp execOp
  simp only [ho, List.map_toArray, List.map_cons, List.map_nil, hx, Sem.run_bind, run_oneI s w, Result.andThen_ok]
  exact this
theorem wpL_noneI (hgd : o.guard = none) (ho : o.op = .buildSlice 74 0 #[])
    (h : ∀ b W, Rt.NewAt w W b 3 [] → wpList Tryz.prog ops Q rest (a.put o.dst (.slice (some ⟨b, 0, none⟩) 0 0)) W) : wpList Tryz.prog ops Q (o :: rest) a w := by
  obtain ⟨i0, hi, hz0, hz1, hz2⟩ := info_parts info8
  refine wpList_plain hgd fun K hK => ?_
  have := hK _ _ (h w.heap.size (w.alloc (.cells #[] 3)) (Rt.NewAt.mk' w 3 []))
  unfold Oper.wp execOp
  simp only [ho, List.map_toArray, List.map_nil, Sem.run_bind]
  simp [Instr.buildSlice, run_underlying Tryz.underlying74, sizeOf, typeInfo, zeroValue, hi, hz0, hz1, newRow, Instr.fill, show Array.range 0 = #[] from rfl]
  exact this
theorem wpL_appI (hgd : o.guard = none) (s x : Operand) (ho : o.op = .call { callee := .builtin .append, args := #[s, x], argTypes := #[74, 74] }) (B : Nat) (v : Value) (l : List Value) (b t : Nat) (u : Value) (hs : a.eval s = v) (hx : a.eval x = .slice (some ⟨b, 0, none⟩) 1 1)
    (hown : OwnV w B 3 v l) (hc : Arr w b t [u]) (hu : u.oneCell' = true) (hlen : l.length ≤ 1000000) (hB : B ≤ w.heap.size)
    (h : ∀ v' w', OwnV w' B 3 v' (l ++ [u]) → Below B w w' → wpList Tryz.prog ops Q rest (a.put o.dst v') w') : wpList Tryz.prog ops Q (o :: rest) a w := by
  obtain ⟨i0, hi, hz0, hz1, hz2⟩ := info_parts info8
  exact wpList_appV hgd s x 74 ho B 3 i0 (.int .i64 0) 8 Tryz.underlying74 hi hz0 hz1 hz2 rfl v l hs hown ⟨b, 0, none⟩ 1 u hx (hc.cell 0 (by simp)) hu (by simp [maxLen]; omega) (by omega) hB h
end
theorem wJoin_eq : wJoin.toList = ([106, 111, 105, 110] : List UInt8) := toList_lit _
/-- Those who have joined. -/
def joC (c : Ce) : Bool := decide (c.k = 2) && (c.e.body.toList == wJoin.toList)
def joL (cs : List Ce) : List ByteArray := (cs.filter joC).map (·.y)
theorem joL_step {cs : List Ce} {i : Nat} {c : Ce} (h : i < cs.length) (hc : cs[i] = c) : joL (cs.take (i + 1)) = joL (cs.take i) ++ (if joC c = true then [c.y] else []) := by
  unfold joL
  rw [List.take_add_one, List.getElem?_eq_getElem h, hc, List.filter_append, List.map_append]
  congr 1
  cases hj : joC c <;> simp [hj]
theorem joL_len (cs : List Ce) (i : Nat) : (joL (cs.take i)).length ≤ cs.length := by
  unfold joL; rw [List.length_map]
  refine Nat.le_trans (List.length_filter_le _ _) ?_
  simp; omega

set_option maxHeartbeats 16000000 in
theorem joined_any (w : World) (v : Value) (cs : List Ce) (hv : CsAt w v cs) (hn : cs.length ≤ 1000) (h ep k : Int) :
    Calls Tryz.prog 21 #[.agg #[v, .int .i64 h, .int .i64 ep, .int .i64 k]] w fun x w' => ∃ v', x = .returned v' ∧ StrsAt w' v' (joL cs) ∧ Below w.heap.size w w' := by
  have HV := hidp hv
  obtain ⟨a0, c0, hv0⟩ := hv.form
  obtain ⟨n, hnn⟩ : ∃ n, cs.length = n := ⟨_, rfl⟩
  have HN := hidp hnn
  rw [hnn] at hv0
  subst hv0
  have HL := hidp (fun i => joL_len cs i)
  rw [hnn] at hn
  clear hv hnn
  have H := hidp (Mm.M.nil w)
  go_enter Tryz.func21, Tryz.ntmps21
  go_wp2_with (first | (refine Mm.box 35 H rfl (.tmp 0) rfl [.slice a0 n c0, .int .i64 h, .int .i64 ep, .int .i64 k] rfl ?_; clear H; intro b1 _ H nw; have hb := nw.below; clear hb nw) | (refine wpL_noneS rfl rfl ?_; intro b6 _ nw; have HO := hidp (OwnV.empty nw.arr (Nat.le_trans H.out.le nw.le)); replace H := hidp (H.out.call nw.below); clear nw) | (refine Mm.ld0 naSl H rfl (.tmp 7) 0 (.slice a0 n c0) rfl rfl rfl ?_))
  go_loopw [3, 10] (fun t3 t10 wr => ∃ i : Nat, t10 = .int .i64 (i : Int) ∧ i ≤ n ∧ OwnV wr w.heap.size 9 t3 (strV (joL (cs.take i))) ∧ Mm.M w.heap.size w wr []) (fun _ t10 _ => n - (intOf t10).toNat)
  case atStart => exact ⟨0, rfl, by omega, HO.out, H.out.tail⟩
  case round =>
    clear H HO
    obtain ⟨i, rfl, hi, hO, hM⟩ := hrel
    have H := hidp hM; have HO := hidp hO
    clear hM hO
    by_cases hlt : i < n
    · have e1 : decide ((i : Int) < (n : Int)) = true := by simp; omega
      have hgl : i < cs.length := by rw [HN.out]; exact hlt
      obtain ⟨BK, off, cc0, e2, hc, hBK0, hR0⟩ := HV.out.get (by rw [HN.out]; omega)
      rw [HN.out] at e2
      simp only [Value.slice.injEq] at e2
      obtain ⟨rfl, -, rfl⟩ := e2
      obtain ⟨c, hge⟩ : ∃ c, cs[i] = c := ⟨_, rfl⟩
      have HRI := hidp (show wr.rangeAt BK (off + 8 * i) c.row from by rw [← hge]; exact rangeAt_below (hR0 i hgl) H.out.below hBK0)
      have HLN := hidp (show (strV (joL (cs.take i))).length ≤ 1000000 from by have := HL.out i; rw [HN.out] at this; rw [strV_length]; omega)
      have hy := (HV.out.ok _ (List.getElem_mem hgl)).y
      rw [hge] at hy
      have ks := hidp (fun W => strClone_any c.y W hy)
      have HJ0 := hidp (joL_step hgl hge)
      obtain ⟨l0, hl0⟩ : ∃ l, joL (cs.take i) = l := ⟨_, rfl⟩
      rw [hl0] at HJ0 HO HLN
      clear hR0 hBK0 hge hc hy hl0
      by_cases hk : c.k = 2
      · have ek : ((c.k : Int) == 2) = true := by rw [hk]; rfl
        cases hb : (c.e.body.toList == ([106, 111, 105, 110] : List UInt8)) with
        | true =>
          have HJ := hidp (show joL (cs.take (i + 1)) = l0 ++ [c.y] from by rw [HJ0.out, if_pos (by unfold joC; rw [wJoin_eq, hb, decide_eq_true hk]; rfl)])
          clear hk HJ0
          go_wp2_with (first | (refine wpL_idxR tyC rfl (.tmp 8) (.tmp 10) rfl BK off n _ i rfl rfl hlt ?_) | (refine wpL_atR tyC rfl (.tmp 12) rfl BK (off + 8 * i) c.row rfl rfl HRI.out ?_) | (refine Mm.new rtC H (some 5) rfl rfl rfl ?_; clear H; intro b5 _ H nw; have hb := nw.below; replace HO := hidp (HO.out.kept hb (Nat.le_refl _)); clear hb nw) | (refine Mm.put0 rtC H rfl (.tmp 5) (.tmp 13) c.row rfl rfl rfl rfl (Ce.one c) rfl ?_; intro _ H2 st; replace HO := hidp (HO.out.stp st H.out.at0 (by decide)); clear st H; have H := H2; clear H2) | (refine Mm.ld0 naK H rfl (.tmp 14) 0 (.int .u8 (c.k : Int)) rfl rfl rfl ?_) | (refine Mm.ld0 naS H rfl (.tmp 19) 6 (.string c.e.body) rfl rfl rfl ?_) | (refine Mm.ld0 naS H rfl (.tmp 24) 1 (.string c.y) rfl rfl rfl ?_) | (go_at_call 35; refine (ks.out _).mono ?_; rintro e _ ⟨rfl, hb⟩; replace H := hidp (H.out.call hb); replace HO := hidp (HO.out.kept hb (Nat.le_refl _)); clear hb) | (refine wpL_oneS H rfl (.tmp 26) c.y rfl rfl ?_; clear H; intro b26 _ H nw; replace HO := hidp (HO.out.kept nw.below (Nat.le_refl _)); clear nw) | (at_builtin; (refine wpL_appS rfl (.tmp 23) (.tmp 27) rfl w.heap.size _ _ b26 _ (.string c.y) rfl rfl HO.out H.out.at0 rfl HLN.out H.out.le ?_; intro v9 w9 ho9 hb9; have HB9 := hidp (H.out.below.trans hb9); have HO9 := hidp ho9; have HS9 := hidp hb9.size; clear ho9 hb9 HO)))
          exact ⟨⟨i + 1, by go_num, by omega, by rw [HJ.out, ← strV_snoc]; exact HO9.out, ⟨HB9.out, HB9.out.size, by simp, List.Pairwise.nil, by simp⟩⟩, by simp [intOf]; omega⟩
        | false =>
          have HJ := hidp (show joL (cs.take (i + 1)) = l0 from by rw [HJ0.out, if_neg (by unfold joC; rw [wJoin_eq, hb, Bool.and_false]; exact Bool.false_ne_true)]; simp)
          clear hk HJ0
          go_wp2_with (first | (refine wpL_idxR tyC rfl (.tmp 8) (.tmp 10) rfl BK off n _ i rfl rfl hlt ?_) | (refine wpL_atR tyC rfl (.tmp 12) rfl BK (off + 8 * i) c.row rfl rfl HRI.out ?_) | (refine Mm.new rtC H (some 5) rfl rfl rfl ?_; clear H; intro b5 _ H nw; have hb := nw.below; replace HO := hidp (HO.out.kept hb (Nat.le_refl _)); clear hb nw) | (refine Mm.put0 rtC H rfl (.tmp 5) (.tmp 13) c.row rfl rfl rfl rfl (Ce.one c) rfl ?_; intro _ H2 st; replace HO := hidp (HO.out.stp st H.out.at0 (by decide)); clear st H; have H := H2; clear H2) | (refine Mm.ld0 naK H rfl (.tmp 14) 0 (.int .u8 (c.k : Int)) rfl rfl rfl ?_) | (refine Mm.ld0 naS H rfl (.tmp 19) 6 (.string c.e.body) rfl rfl rfl ?_))
          exact ⟨⟨i + 1, by go_num, by omega, by rw [HJ.out]; exact HO.out, H.out.tail⟩, by simp [intOf]; omega⟩
      · have ek : ((c.k : Int) == 2) = false := by rw [beq_eq_false_iff_ne]; omega
        have HJ := hidp (show joL (cs.take (i + 1)) = l0 from by rw [HJ0.out, if_neg (by unfold joC; simp [hk])]; simp)
        clear hk HJ0
        go_wp2_with (first | (refine Rt.wpL_skip _ _ rfl rfl ?_) | (refine wpL_idxR tyC rfl (.tmp 8) (.tmp 10) rfl BK off n _ i rfl rfl hlt ?_) | (refine wpL_atR tyC rfl (.tmp 12) rfl BK (off + 8 * i) c.row rfl rfl HRI.out ?_) | (refine Mm.new rtC H (some 5) rfl rfl rfl ?_; clear H; intro b5 _ H nw; have hb := nw.below; replace HO := hidp (HO.out.kept hb (Nat.le_refl _)); clear hb nw) | (refine Mm.put0 rtC H rfl (.tmp 5) (.tmp 13) c.row rfl rfl rfl rfl (Ce.one c) rfl ?_; intro _ H2 st; replace HO := hidp (HO.out.stp st H.out.at0 (by decide)); clear st H; have H := H2; clear H2) | (refine Mm.ld0 naK H rfl (.tmp 14) 0 (.int .u8 (c.k : Int)) rfl rfl rfl ?_))
        exact ⟨⟨i + 1, by go_num, by omega, by rw [HJ.out]; exact HO.out, H.out.tail⟩, by simp [intOf]; omega⟩
    · have e1 : decide ((i : Int) < (n : Int)) = false := by simp; omega
      have hin : i = n := by omega
      have HT := hidp (show joL (cs.take i) = joL cs from by rw [hin, ← HN.out, List.take_length])
      clear hin
      go_wp2_with fail
      go_ret
      exact ⟨_, rfl, by have := HO.out.strs; rw [HT.out] at this; exact this, H.out.below⟩
set_option maxHeartbeats 1000000 in
set_option maxRecDepth 20000 in
theorem same01_any (w : World) (v v' : Value) (ss tt : List ByteArray) (hat : StrsAt w v ss) (hat' : StrsAt w v' tt) (hn : ss.length ≤ 140737488351232) (hn' : tt.length ≤ 140737488351232) :
    Calls Tryz.prog 36 #[v, v'] w fun e w' => e = .returned (.bool (sameB ss tt)) ∧ Below w.heap.size w w' := by
  obtain ⟨a, cap, rfl, hc⟩ := hat
  obtain ⟨a', cap', rfl, hc'⟩ := hat'
  obtain ⟨n, hnn⟩ : ∃ n, ss.length = n := ⟨_, rfl⟩
  obtain ⟨n', hnn'⟩ : ∃ n', tt.length = n' := ⟨_, rfl⟩
  obtain ⟨S, hS⟩ : ∃ S, S = sameB ss tt := ⟨_, rfl⟩
  rw [hnn] at hn ⊢
  rw [hnn'] at hn' ⊢
  rw [← hS]
  have HC := hidp hc; clear hc
  have HNN := hidp hnn; clear hnn
  have HC' := hidp hc'; clear hc'
  have HNN' := hidp hnn'; clear hnn'
  have HS := hidp hS; clear hS
  by_cases hl : n = n'
  · subst hl
    have hlb : ((n : Int) != (n : Int)) = false := by simp
    go_enter Tryz.func36, Tryz.ntmps36
    go_wp2
    go_loopw [13] (fun t13 wr => ∃ k : Nat, t13 = .int .i64 k ∧ k ≤ n ∧ (∀ j (h : j < ss.length) (h' : j < tt.length), j < k → ss[j] = tt[j]) ∧ Below w.heap.size w wr) (fun t13 _ => n - (intOf t13).toNat)
    case atStart => exact ⟨0, rfl, by omega, by intro j _ _ h; omega, Below.refl _ _⟩
    case round =>
      obtain ⟨k, rfl, hk, hall, hb⟩ := hrel
      have HALL := hidp hall; clear hall
      by_cases hlt : k < n
      · have hlt1 : k < ss.length := by have := HNN.out; omega
        have hlt2 : k < tt.length := by have := HNN'.out; omega
        obtain ⟨b, off, rfl, hcell⟩ := HC.out k hlt1
        obtain ⟨b', off', rfl, hcell'⟩ := HC'.out k hlt2
        have h1 := (hb.cell (p := ⟨b, off + k, none⟩) (by have := World.block_lt_of_cell? w _ hcell; simpa using this)).trans hcell
        have h2 := (hb.cell (p := ⟨b', off' + k, none⟩) (by have := World.block_lt_of_cell? w _ hcell'; simpa using this)).trans hcell'
        clear hcell hcell'
        have hne := hidp (fun hne => sameB_at (ss := ss) (tt := tt) k hlt1 hlt2 hne)
        obtain ⟨s, hs⟩ : ∃ s, ss[k] = s := ⟨_, rfl⟩
        obtain ⟨t, ht⟩ : ∃ t, tt[k] = t := ⟨_, rfl⟩
        rw [hs] at h1
        rw [ht] at h2
        have hne := hidp (show s ≠ t → sameB ss tt = false from by rw [← hs, ← ht]; exact hne.out)
        have H1 := hidp hs; have H2 := hidp ht; clear hs ht
        have hi0 : (0 : Int) ≤ (k : Int) := by omega
        have hi1 : (k : Int) < (n : Int) := by omega
        by_cases hst : s = t
        · subst hst
          have hB := hidp fun nq => below_drewN hb nq
          go_wp2
          go_quiet (fail)
          go_wp2
          refine ⟨⟨k + 1, by go_num, by omega, fun j h h' hj => ?_, hB.out _⟩, by simp [intOf]; omega⟩
          by_cases hjk : j = k
          · subst hjk; have e1 := H1.out; have e2 := H2.out; rw [e1, e2]
          · exact HALL.out j h h' (by omega)
        · have hne2 := hidp (hne.out hst)
          have ht := toList_no hst
          have hB := hidp fun nq => below_drewN hb nq
          have HST := hidp hst; clear hst
          go_wp2
          go_quiet (fail)
          go_wp2
          go_ret
          exact ⟨by rw [HS.out, hne2.out]; rfl, hB.out _⟩
      · have hfin := hidp (sameB_all (ss := ss) (tt := tt) (by rw [HNN.out, HNN'.out]) fun j h h' => HALL.out j h h' (by have := HNN.out; omega))
        go_wp2
        go_ret
        exact ⟨by rw [HS.out, hfin.out]; rfl, hb⟩
  · have hlb : ((n : Int) != (n' : Int)) = true := by simp; omega
    have hfin := hidp (sameB_len (ss := ss) (tt := tt) (by rw [HNN.out, HNN'.out]; exact hl))
    go_enter Tryz.func36, Tryz.ntmps36
    go_wp2
    go_ret
    exact ⟨by rw [HS.out, hfin.out]; rfl, Below.refl _ _⟩
end Go.Proofs.YtkcgmimcopoknaaGreatDoor
