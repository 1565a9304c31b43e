
/-
  state: copies; Set.
-/
import Derived.Test.YtiakfopdohcigaaGreatDoorInsC
import Derived.Shelf.RegionOpenPlain
import Derived.Lib.SliceRun
namespace Go.Proofs.YtiakfopdohcigaaGreatDoor
set_option maxRecDepth 100000
set_option linter.unusedVariables false
set_option linter.unusedSimpArgs false
open Go.RowKit Rw


set_option maxHeartbeats 8000000 in
theorem clone_ev (w : World) (e : Ev) (he : e.ok) : Calls Tryz.prog 55 #[.agg e.row.toArray] w fun x w' => x = .returned (.agg e.row.toArray) ∧ Below w.heap.size w w' := by
  have c0 := hidp (fun W => strClone_any e.room W he.r); have c1 := hidp (fun W => strClone_any e.sender W he.s); have c3 := hidp (fun W => strClone_any e.key W he.y); have c4 := hidp (fun W => strClone_any e.body W he.b)
  have H := hidp (Mm.M.nil w)
  go_enter Tryz.func55, Tryz.ntmps55
  go_wp2_with (first | (refine Mm.box 25 H rfl (.tmp 0) rfl e.row rfl ?_; clear H; intro b1 _ H nw; have hb := nw.below; clear hb nw) | (refine Mm.new rtE H (some 2) rfl rfl rfl ?_; clear H; intro b2 _ H nw; have hb := nw.below; clear hb nw) | (refine Mm.ld1 naS H rfl (.tmp 3) 0 (.string e.room) rfl rfl rfl ?_) | (go_at_call 59; refine (c0.out _).mono ?_; rintro e _ ⟨rfl, hb⟩; replace H := hidp (H.out.call hb); clear hb) | (refine Mm.putF1 H rfl 9 (.tmp 6) (.tmp 5) 0 (.string e.room) rfl rfl rfl (by kernel_rfl) rfl (of_decide_eq_true rfl) ?_; intro _ H2 st; clear st H; have H : Hid (Mm.M w.heap.size w _ ([⟨b2, 25, zE⟩, ⟨b1, 25, e.row⟩])) := H2; clear H2) | (refine Mm.ld1 naS H rfl (.tmp 7) 1 (.string e.sender) rfl rfl rfl ?_) | (go_at_call 59; refine (c1.out _).mono ?_; rintro e _ ⟨rfl, hb⟩; replace H := hidp (H.out.call hb); clear hb) | (refine Mm.putF1 H rfl 9 (.tmp 10) (.tmp 9) 1 (.string e.sender) rfl rfl rfl (by kernel_rfl) rfl (of_decide_eq_true rfl) ?_; intro _ H2 st; clear st H; have H : Hid (Mm.M w.heap.size w _ ([⟨b2, 25, zE⟩, ⟨b1, 25, e.row⟩])) := H2; clear H2) | (refine Mm.ld1 naS H rfl (.tmp 11) 3 (.string e.key) rfl rfl rfl ?_) | (go_at_call 59; refine (c3.out _).mono ?_; rintro e _ ⟨rfl, hb⟩; replace H := hidp (H.out.call hb); clear hb) | (refine Mm.putF1 H rfl 9 (.tmp 14) (.tmp 13) 3 (.string e.key) rfl rfl rfl (by kernel_rfl) rfl (of_decide_eq_true rfl) ?_; intro _ H2 st; clear st H; have H : Hid (Mm.M w.heap.size w _ ([⟨b2, 25, zE⟩, ⟨b1, 25, e.row⟩])) := H2; clear H2) | (refine Mm.ld1 naS H rfl (.tmp 15) 4 (.string e.body) rfl rfl rfl ?_) | (go_at_call 59; refine (c4.out _).mono ?_; rintro e _ ⟨rfl, hb⟩; replace H := hidp (H.out.call hb); clear hb) | (refine Mm.putF1 H rfl 9 (.tmp 18) (.tmp 17) 4 (.string e.body) rfl rfl rfl (by kernel_rfl) rfl (of_decide_eq_true rfl) ?_; intro _ H2 st; clear st H; have H : Hid (Mm.M w.heap.size w _ ([⟨b2, 25, zE⟩, ⟨b1, 25, e.row⟩])) := H2; clear H2) | (refine Mm.get1 rtE H rfl (.tmp 1) rfl rfl rfl ?_) | (refine Mm.put0 rtE H rfl (.tmp 2) (.tmp 19) e.row rfl rfl rfl rfl (Ev.one e) rfl ?_; intro _ H2 st; clear st H; have H := H2; clear H2))
  refine bodyPost_ret (Mm.ret_row rtE Tryz.results55 _ b2 _ rfl H.out.at0 rfl) rfl ⟨rfl, H.out.below⟩

theorem built_ce (e : Ev) : Tryz.prog.built 75 [(0, .int .u8 (e.kind : Int)), (1, .string e.key), (2, .agg e.row.toArray)] = some (newC e).row.toArray := by kernel_rfl
theorem newC_ok {e : Ev} (h : e.ok) : (newC e).ok := ⟨h.k, h.y, h⟩
set_option maxHeartbeats 8000000 in
theorem cellOf_any (w : World) (e : Ev) (he : e.ok) : Calls Tryz.prog 106 #[.agg e.row.toArray] w fun x w' => x = .returned (.agg (newC e).row.toArray) ∧ Below w.heap.size w w' := by
  have cc := hidp (fun W => clone_ev W e he)
  have H := hidp (Mm.M.nil w)
  go_enter Tryz.func106, Tryz.ntmps106
  go_wp2_with (first | (refine Mm.box 25 H rfl (.tmp 0) rfl e.row rfl ?_; clear H; intro b1 _ H nw; have hb := nw.below; clear hb nw) | (refine Mm.new rtC H (some 2) rfl rfl rfl ?_; clear H; intro b2 _ H nw; have hb := nw.below; clear hb nw) | (refine Mm.get1 rtE H rfl (.tmp 1) rfl rfl rfl ?_) | (go_at_call 55; refine (cc.out _).mono ?_; rintro e _ ⟨rfl, hb⟩; replace H := hidp (H.out.call hb); clear hb) | (refine Mm.put1 rtE H rfl (.tmp 1) (.tmp 4) e.row rfl rfl rfl rfl (Ev.one e) rfl ?_; intro _ H2 st; clear st H; have H := H2; clear H2) | (refine Mm.ld1 naK H rfl (.tmp 5) 2 (.int .u8 (e.kind : Int)) rfl rfl rfl ?_) | (refine Mm.ld1 naS H rfl (.tmp 7) 3 (.string e.key) rfl rfl rfl ?_) | (refine Mm.get1 rtE H rfl (.tmp 1) rfl rfl rfl ?_) | (refine Rt.wpL_build rfl 75 _ rfl (newC e).row (by kernel_rfl) ?_) | (refine Mm.put0 rtC H rfl (.tmp 2) (.tmp 10) (newC e).row rfl rfl rfl rfl (Ce.one _) rfl ?_; intro _ H2 st; clear st H; have H := H2; clear H2))
  refine bodyPost_ret (Mm.ret_row rtC Tryz.results106 _ b2 _ rfl H.out.at0 rfl) rfl ⟨rfl, H.out.below⟩
section
variable {P : Program} {ST T k by_ : Nat} {z : List Value} {ops : Array Oper} {rest : List Oper} {o : Oper} {a : Act} {w : World} {Q : Exit → Act → World → Prop}
theorem wpL_bs0R (R : RowTy P ST T k by_ z) (hgd : o.guard = none) (ho : o.op = .buildSlice ST 0 #[])
    (h : ∀ b W, Rt.NewAt w W b T [] → wpList P ops Q rest (a.put o.dst (.slice (some ⟨b, 0, none⟩) 0 0)) W) : wpList P ops Q (o :: rest) a w := by
  obtain ⟨i0, hi, hz0, hz1, hz2⟩ := info_parts R.info
  refine wpList_plain hgd fun K hK => ?_
  have := hK _ _ (h w.heap.size (w.alloc (.cells #[] T)) (Rt.NewAt.mk' w T []))
  unfold Oper.wp execOp
  simp only [ho, List.map_toArray, List.map_nil, Sem.run_bind]
  simp [Instr.buildSlice, run_underlying R.us, sizeOf, typeInfo, zeroValue, hi, hz0, hz1, newRow, Instr.fill, show Array.range 0 = #[] from rfl]
  exact this
theorem OwnR.empty {B b : Nat} {W : World} (ha : Arr W b T []) (hB : B ≤ b) : OwnR T k W B (.slice (some ⟨b, 0, none⟩) 0 0) [] :=
  OwnR.of_arr (cap := 0) (cur := []) (es := []) AllK.nil ha hB (by simp) (by simp) (by simp) (by simp)
end
set_option maxHeartbeats 8000000 in
theorem cloneC_any (w : World) (v : Value) (cs : List Ce) (hv : CsAt w v cs) (hn : cs.length ≤ 1024) :
    Calls Tryz.prog 137 #[v] w fun e w' => ∃ v', e = .returned v' ∧ OwnR 75 8 w' w.heap.size v' (rowsC cs) ∧ Below w.heap.size w w' := by
  have hk := rowsC_all cs
  have q53 : ∀ (w : World) (a : Option Addr) (n c n' c' : Nat), (binOp .eql 22 (.slice a n c) (.slice none n' c')).run Tryz.prog w = .ok (.bool a.isNone) w := fun w a n c n' c' => Lib.run_eql_slice_nil w _ _ a n c n' c' tyC.us
  rcases hv.rs.2 with ⟨rfl, he⟩ | ⟨BK, off, c, rfl, hc, hB, hr⟩
  · rw [he]
    go_enter Tryz.func137, Tryz.ntmps137
    go_wp2_with fail
    go_ret
    exact ⟨_, rfl, OwnR.nil _ _, Below.refl _ _⟩
  · have HR := hidp hr; have HK := hidp hk; have hl := rowsC_len cs
    obtain ⟨R, hR⟩ : ∃ R, rowsC cs = R := ⟨_, rfl⟩
    have HO := hidp (show One1 R from by rw [← hR]; exact rowsC_one cs)
    rw [hR] at HR HK hl ⊢
    obtain ⟨n, hnn⟩ : ∃ n, R.length = n := ⟨_, rfl⟩
    have HN := hidp hnn
    rw [hnn]
    clear hv hr hk hR hc hnn
    go_enter Tryz.func137, Tryz.ntmps137
    go_wp2_with (first | (refine wpL_bs0R tyC rfl rfl ?_; intro b5 w5 n5; have HE := hidp (OwnR.empty (k := 8) n5.arr n5.le); have HR5 := hidp (rangeAt_below HR.out n5.below hB); have HB5 := hidp n5.below; have h5 := hidp (show w.heap.size ≤ w5.heap.size from by have := n5.size; have := n5.at_; omega); clear n5) | (refine wpL_appR tyC rfl (.tmp 5) (.tmp 6) rfl w.heap.size BK off c _ [] R n rfl rfl HN.out HE.out HR5.out HK.out HO.out h5.out (by have := HN.out; simp; omega) ?_; intro v' W ho _ hb))
    go_ret
    exact ⟨_, rfl, by simpa using ho, HB5.out.trans hb⟩
/-- A row that is stored where it stood. -/
theorem same_put {cur row : List Value} {i : Nat} (h : (cur.drop (8 * i)).take 8 = row) (hl : 8 * i + 8 ≤ cur.length) : cur.take (8 * i) ++ row ++ cur.drop (8 * i + 8) = cur := by
  rw [← h, List.append_assoc]
  conv => rhs; rw [← List.take_append_drop (8 * i) cur, ← List.take_append_drop 8 (cur.drop (8 * i)), List.drop_drop]
theorem own_row {cs : List Ce} {cur : List Value} (h : cur.take (8 * cs.length) = (rowsC cs).flatten) {i : Nat} (hi : i < cs.length) : (cur.drop (8 * i)).take 8 = (cs[i]).row := by
  have h1 : ((cur.take (8 * cs.length)).drop (8 * i)).take 8 = (cur.drop (8 * i)).take 8 := by
    rw [List.drop_take, List.take_take, Nat.min_eq_left (by omega)]
  rw [← h1, h]
  have e : (rowsC cs).flatten = ((rowsC cs).take i).flatten ++ ((rowsC cs).drop i).flatten := by rw [← List.flatten_append, List.take_append_drop]
  have hl : ((rowsC cs).take i).flatten.length = 8 * i := by rw [Rw.flat_len ((rowsC_all cs).take i), List.length_take, rowsC_len, Nat.min_eq_left (by omega)]
  rw [e, ← hl, List.drop_left]
  have e2 : (rowsC cs).drop i = (cs[i]).row :: (rowsC cs).drop (i + 1) := by
    rw [List.drop_eq_getElem_cons (by rw [rowsC_len]; exact hi)]
    simp [rowsC]
  rw [e2, List.flatten_cons]
  exact List.take_left' rfl
theorem own_range {w : World} {g : Nat} {cs : List Ce} {cur : List Value} (ha : Arr w g 75 cur) (h : cur.take (8 * cs.length) = (rowsC cs).flatten) {i : Nat} (hi : i < cs.length) : w.rangeAt g (0 + 8 * i) (cs[i]).row := by
  rw [← own_row h hi]
  intro j v hv
  rw [List.getElem?_take] at hv
  split at hv
  · rw [List.getElem?_drop] at hv
    have := ha.range (8 * i + j) v hv
    rw [show 0 + 8 * i + j = 0 + (8 * i + j) from by omega]; exact this
  · cases hv

theorem newC_id {c : Ce} (h : vaC c = true) : newC c.e = c := by
  unfold vaC at h
  simp only [Bool.and_eq_true, decide_eq_true_eq] at h
  obtain ⟨⟨-, h1⟩, h2⟩ := h
  unfold newC
  rw [h1, h2]
set_option maxHeartbeats 8000000 in
theorem owned_any (w : World) (v : Value) (cs : List Ce) (hv : CsAt w v cs) (hn : cs.length ≤ 1024) (hva : ∀ c ∈ cs, vaC c = true) :
    Calls Tryz.prog 104 #[v] w fun e w' => ∃ v', e = .returned v' ∧ OwnR 75 8 w' w.heap.size v' (rowsC cs) ∧ Below w.heap.size w w' := by
  have cl := hidp (cloneC_any w v cs hv hn)
  have HVA := hidp hva
  have HOK := hidp hv.ok
  have H := hidp (Mm.M.nil w)
  clear hva hv
  go_enter Tryz.func104, Tryz.ntmps104
  go_wp2_with (go_at_call 137; refine (cl.out).mono ?_; rintro e w1 ⟨v1, rfl, ho, hb⟩; have HO := hidp ho; have HB := hidp hb; have h2 := ho.2.2; clear ho hb; rcases h2 with ⟨rfl, h0⟩ | ⟨g, cap, cur0, rfl, hBg, hg, hnc, hcm, hcs, hct⟩)
  · rw [rowsC_len] at h0
    have hz : cs = [] := List.eq_nil_of_length_eq_zero h0
    subst hz
    go_wp2_with fail
    go_loopw [10] (fun t10 wr => t10 = .int .i64 0 ∧ w1 = wr) (fun t10 _ => 0)
    case atStart => exact ⟨rfl, rfl⟩
    case round =>
      obtain ⟨rfl, rfl⟩ := hrel
      go_wp2_with fail
      go_ret
      exact ⟨_, rfl, HO.out, HB.out⟩
  · obtain ⟨cur, rfl⟩ : ∃ l : List Value, cur0 = l.toArray := ⟨cur0.toList, by simp⟩
    obtain ⟨n, hnn⟩ : ∃ n, cs.length = n := ⟨_, rfl⟩
    have HN := hidp hnn
    have HCT := hidp (show cur.take (8 * cs.length) = (rowsC cs).flatten from by have h := hct; rw [rowsC_len, Nat.mul_comm] at h; simpa using h)
    have hcl : cur.length = cap * 8 := by simpa using hcs
    have hnc' : n ≤ cap := by rw [rowsC_len, hnn] at hnc; exact hnc
    rw [rowsC_len, hnn] at HO ⊢
    replace H := hidp (H.out.add (m := 0) HB.out hBg (show Arr w1 g 75 cur from hg))
    have HCM := hidp hcm; have HBG := hidp hBg
    clear hcs hct hg hnc HO hcm hBg HB
    go_wp2_with fail
    go_loopw [10] (fun t10 wr => ∃ i : Nat, t10 = .int .i64 (i : Int) ∧ i ≤ n ∧ Mm.M w.heap.size w wr [⟨g, 75, cur⟩]) (fun t10 _ => n - (intOf t10).toNat)
    case atStart => exact ⟨0, rfl, by omega, H.out⟩
    case round =>
      clear H
      obtain ⟨i, rfl, hi, hM⟩ := hrel
      have H := hidp hM
      clear hM
      by_cases hlt : i < n
      · have e1 : decide ((i : Int) < (n : Int)) = true := by simp; omega
        have hgl : i < cs.length := by rw [HN.out]; exact hlt
        obtain ⟨c, hge⟩ : ∃ c, cs[i] = c := ⟨_, rfl⟩
        have HRW := hidp (show ∀ W, Arr W g 75 cur → W.rangeAt g (0 + 8 * i) c.row from fun W ha => by rw [← hge]; exact own_range ha HCT.out hgl)
        have hcok := hidp (show c.ok from by rw [← hge]; exact HOK.out _ (List.getElem_mem hgl))
        have HNE := hidp (show (newC c.e).row = c.row from by rw [newC_id (by rw [← hge]; exact HVA.out _ (List.getElem_mem hgl))])
        have HSP := hidp (show cur.take (8 * i) ++ c.row ++ cur.drop (8 * i + 8) = cur from same_put (by rw [own_row HCT.out hgl, hge]) (by omega))
        have cf := hidp (fun W => cellOf_any W c.e hcok.out.e)
        clear hge
        go_wp2_with (first | (refine wpL_idxR tyC rfl (.tmp 8) (.tmp 10) rfl g 0 n cap i rfl rfl hlt ?_) | (refine wpL_atR tyC rfl (.tmp 13) rfl g (0 + 8 * i) c.row rfl rfl (HRW.out _ H.out.at0) ?_) | (refine Mm.new rtC H (some 5) rfl rfl rfl ?_; clear H; intro b5 _ H nw; have hb := nw.below; clear hb nw) | (refine Mm.put0 rtC H rfl (.tmp 5) (.tmp 14) c.row rfl rfl rfl rfl (Ce.one c) rfl ?_; intro _ H2 st; clear st H; have H := H2; clear H2) | (refine wpL_mid rtE rfl (.tmp 17) b5 2 c.e.row rfl rfl rfl (ce_evA H.out.at0) ?_) | (go_at_call 106; refine (cf.out _).mono ?_; rintro e _ ⟨rfl, hb⟩; replace H := hidp (H.out.call hb); clear hb) | (refine wpL_idxR tyC rfl (.tmp 15) (.tmp 16) rfl g 0 n cap i rfl rfl hlt ?_) | (refine wpL_putAt rtC rfl (.tmp 20) (.tmp 19) g (0 + 8 * i) 75 (newC c.e).row cur rfl rfl rfl rfl (Ce.one _) H.out.at1 (by omega) ?_; intro W9 ha st; replace H := hidp (H.out.put1 (show Arr W9 g 75 cur from by rw [Nat.zero_add, HNE.out, HSP.out] at ha; exact ha) st); clear ha st))
        exact ⟨⟨i + 1, by go_num, by omega, H.out.tail⟩, by simp [intOf]; omega⟩
      · have e1 : decide ((i : Int) < (n : Int)) = false := by simp; omega
        go_wp2_with fail
        go_ret
        refine ⟨_, rfl, ?_, H.out.below⟩
        have := OwnR.of_arr (k := 8) (T := 75) (B := w.heap.size) (cap := cap) (es := rowsC cs) (rowsC_all cs) H.out.at0 HBG.out (by rw [rowsC_len, HN.out]; exact hnc') HCM.out hcl (by rw [rowsC_len]; exact HCT.out)
        rw [rowsC_len, HN.out] at this
        exact this
end Go.Proofs.YtiakfopdohcigaaGreatDoor
