/-
  Joined: StF StG.
-/
import Derived.Test.YtfenjincbhkodaaDoorTI
import Derived.Shelf.RegionOpenPlain
import Derived.Lib.SliceRun
namespace Go.Proofs.YtfenjincbhkodaaDoor
set_option maxRecDepth 100000
set_option linter.unusedVariables false
set_option linter.unusedSimpArgs false
open Go.RowKit Rw


set_option maxHeartbeats 8000000 in
theorem clone_ev (w : World) (e : Ev) (he : e.ok) : Calls Tryd.prog 61 #[.agg e.row.toArray] w fun x w' => x = .returned (.agg e.row.toArray) ∧ Below w.heap.size w w' := by
  have c0 := hidp (fun W => strClone_any e.room W he.r); have c1 := hidp (fun W => strClone_any e.sender W he.s); have c3 := hidp (fun W => strClone_any e.key W he.y); have c4 := hidp (fun W => strClone_any e.body W he.b)
  have H := hidp (Mm.M.nil w)
  go_enter Tryd.func61, Tryd.ntmps61
  go_wp2_with (first | (refine Mm.box 59 H rfl (.tmp 0) rfl e.row rfl ?_; clear H; intro b1 _ H nw; have hb := nw.below; clear hb nw) | (refine Mm.new rtE H (some 2) rfl rfl rfl ?_; clear H; intro b2 _ H nw; have hb := nw.below; clear hb nw) | (refine Mm.ld1 naS H rfl (.tmp 3) 0 (.string e.room) rfl rfl rfl ?_) | (go_at_call 69; refine (c0.out _).mono ?_; rintro e _ ⟨rfl, hb⟩; replace H := hidp (H.out.call hb); clear hb) | (refine Mm.putF1 H rfl 9 (.tmp 6) (.tmp 5) 0 (.string e.room) rfl rfl rfl (by kernel_rfl) rfl (of_decide_eq_true rfl) ?_; intro _ H2 st; clear st H; have H : Hid (Mm.M w.heap.size w _ ([⟨b2, 59, zE⟩, ⟨b1, 59, e.row⟩])) := H2; clear H2) | (refine Mm.ld1 naS H rfl (.tmp 7) 1 (.string e.sender) rfl rfl rfl ?_) | (go_at_call 69; refine (c1.out _).mono ?_; rintro e _ ⟨rfl, hb⟩; replace H := hidp (H.out.call hb); clear hb) | (refine Mm.putF1 H rfl 9 (.tmp 10) (.tmp 9) 1 (.string e.sender) rfl rfl rfl (by kernel_rfl) rfl (of_decide_eq_true rfl) ?_; intro _ H2 st; clear st H; have H : Hid (Mm.M w.heap.size w _ ([⟨b2, 59, zE⟩, ⟨b1, 59, e.row⟩])) := H2; clear H2) | (refine Mm.ld1 naS H rfl (.tmp 11) 3 (.string e.key) rfl rfl rfl ?_) | (go_at_call 69; refine (c3.out _).mono ?_; rintro e _ ⟨rfl, hb⟩; replace H := hidp (H.out.call hb); clear hb) | (refine Mm.putF1 H rfl 9 (.tmp 14) (.tmp 13) 3 (.string e.key) rfl rfl rfl (by kernel_rfl) rfl (of_decide_eq_true rfl) ?_; intro _ H2 st; clear st H; have H : Hid (Mm.M w.heap.size w _ ([⟨b2, 59, zE⟩, ⟨b1, 59, e.row⟩])) := H2; clear H2) | (refine Mm.ld1 naS H rfl (.tmp 15) 4 (.string e.body) rfl rfl rfl ?_) | (go_at_call 69; refine (c4.out _).mono ?_; rintro e _ ⟨rfl, hb⟩; replace H := hidp (H.out.call hb); clear hb) | (refine Mm.putF1 H rfl 9 (.tmp 18) (.tmp 17) 4 (.string e.body) rfl rfl rfl (by kernel_rfl) rfl (of_decide_eq_true rfl) ?_; intro _ H2 st; clear st H; have H : Hid (Mm.M w.heap.size w _ ([⟨b2, 59, zE⟩, ⟨b1, 59, e.row⟩])) := H2; clear H2) | (refine Mm.get1 rtE H rfl (.tmp 1) rfl rfl rfl ?_) | (refine Mm.put0 rtE H rfl (.tmp 2) (.tmp 19) e.row rfl rfl rfl rfl (Ev.one e) rfl ?_; intro _ H2 st; clear st H; have H := H2; clear H2))
  refine bodyPost_ret (Mm.ret_row rtE Tryd.results61 _ b2 _ rfl H.out.at0 rfl) rfl ⟨rfl, H.out.below⟩

theorem newC_ok {e : Ev} (h : e.ok) : (newC e).ok := ⟨h.k, h.y, h⟩
set_option maxHeartbeats 8000000 in
theorem cellOf_any (w : World) (e : Ev) (he : e.ok) : Calls Tryd.prog 57 #[.agg e.row.toArray] w fun x w' => x = .returned (.agg (newC e).row.toArray) ∧ Below w.heap.size w w' := by
  have cc := hidp (fun W => clone_ev W e he)
  have H := hidp (Mm.M.nil w)
  go_enter Tryd.func57, Tryd.ntmps57
  go_wp2_with (first | (refine Mm.box 59 H rfl (.tmp 0) rfl e.row rfl ?_; clear H; intro b1 _ H nw; have hb := nw.below; clear hb nw) | (refine Mm.new rtC H (some 2) rfl rfl rfl ?_; clear H; intro b2 _ H nw; have hb := nw.below; clear hb nw) | (refine Mm.get1 rtE H rfl (.tmp 1) rfl rfl rfl ?_) | (go_at_call 61; refine (cc.out _).mono ?_; rintro e _ ⟨rfl, hb⟩; replace H := hidp (H.out.call hb); clear hb) | (refine Mm.put1 rtE H rfl (.tmp 1) (.tmp 4) e.row rfl rfl rfl rfl (Ev.one e) rfl ?_; intro _ H2 st; clear st H; have H := H2; clear H2) | (refine Mm.ld1 naK H rfl (.tmp 5) 2 (.int .u8 (e.kind : Int)) rfl rfl rfl ?_) | (refine Mm.ld1 naS H rfl (.tmp 7) 3 (.string e.key) rfl rfl rfl ?_) | (refine Mm.get1 rtE H rfl (.tmp 1) rfl rfl rfl ?_) | (refine Rt.wpL_build rfl 68 _ rfl (newC e).row (by kernel_rfl) ?_) | (refine Mm.put0 rtC H rfl (.tmp 2) (.tmp 10) (newC e).row rfl rfl rfl rfl (Ce.one _) rfl ?_; intro _ H2 st; clear st H; have H := H2; clear H2))
  refine bodyPost_ret (Mm.ret_row rtC Tryd.results57 _ b2 _ rfl H.out.at0 rfl) rfl ⟨rfl, H.out.below⟩
section
variable {P : Program} {ST T k by_ : Nat} {z : List Value} {ops : Array Oper} {rest : List Oper} {o : Oper} {a : Act} {w : World} {Q : Exit → Act → World → Prop}
theorem wpL_bs0R (R : RowTy P ST T k by_ z) (hgd : o.guard = none) (ho : o.op = .buildSlice ST 0 #[])
    (h : ∀ b W, Rt.NewAt w W b T [] → wpList P ops Q rest (a.put o.dst (.slice (some ⟨b, 0, none⟩) 0 0)) W) : wpList P ops Q (o :: rest) a w := by
  obtain ⟨i0, hi, hz0, hz1, hz2⟩ := info_parts R.info
  refine wpList_plain hgd fun K hK => ?_
  have := hK _ _ (h w.heap.size (w.alloc (.cells #[] T)) (Rt.NewAt.mk' w T []))
  unfold Oper.wp execOp
  simp only [ho, List.map_toArray, List.map_nil, Sem.run_bind]
  simp [Instr.buildSlice, run_underlying R.us, sizeOf, typeInfo, zeroValue, hi, hz0, hz1, newRow, Instr.fill, show Array.range 0 = #[] from rfl]
  exact this
theorem OwnR.empty {B b : Nat} {W : World} (ha : Arr W b T []) (hB : B ≤ b) : OwnR T k W B (.slice (some ⟨b, 0, none⟩) 0 0) [] :=
  OwnR.of_arr (cap := 0) (cur := []) (es := []) AllK.nil ha hB (by simp) (by simp) (by simp) (by simp)
end
set_option maxHeartbeats 8000000 in
theorem cloneC_any (w : World) (v : Value) (cs : List Ce) (hv : CsAt w v cs) (hn : cs.length ≤ 1024) :
    Calls Tryd.prog 82 #[v] w fun e w' => ∃ v', e = .returned v' ∧ OwnR 68 8 w' w.heap.size v' (rowsC cs) ∧ Below w.heap.size w w' := by
  have hk := rowsC_all cs
  have q53 : ∀ (w : World) (a : Option Addr) (n c n' c' : Nat), (binOp .eql 56 (.slice a n c) (.slice none n' c')).run Tryd.prog w = .ok (.bool a.isNone) w := fun w a n c n' c' => Lib.run_eql_slice_nil w _ _ a n c n' c' tyC.us
  rcases hv.rs.2 with ⟨rfl, he⟩ | ⟨BK, off, c, rfl, hc, hB, hr⟩
  · rw [he]
    go_enter Tryd.func82, Tryd.ntmps82
    go_wp2_with fail
    go_ret
    exact ⟨_, rfl, OwnR.nil _ _, Below.refl _ _⟩
  · have HR := hidp hr; have HK := hidp hk; have hl := rowsC_len cs
    obtain ⟨R, hR⟩ : ∃ R, rowsC cs = R := ⟨_, rfl⟩
    have HO := hidp (show One1 R from by rw [← hR]; exact rowsC_one cs)
    rw [hR] at HR HK hl ⊢
    obtain ⟨n, hnn⟩ : ∃ n, R.length = n := ⟨_, rfl⟩
    have HN := hidp hnn
    rw [hnn]
    clear hv hr hk hR hc hnn
    go_enter Tryd.func82, Tryd.ntmps82
    go_wp2_with (first | (refine wpL_bs0R tyC rfl rfl ?_; intro b5 w5 n5; have HE := hidp (OwnR.empty (k := 8) n5.arr n5.le); have HR5 := hidp (rangeAt_below HR.out n5.below hB); have HB5 := hidp n5.below; have h5 := hidp (show w.heap.size ≤ w5.heap.size from by have := n5.size; have := n5.at_; omega); clear n5) | (refine wpL_appR tyC rfl (.tmp 5) (.tmp 6) rfl w.heap.size BK off c _ [] R n rfl rfl HN.out HE.out HR5.out HK.out HO.out h5.out (by have := HN.out; simp; omega) ?_; intro v' W ho _ hb))
    go_ret
    exact ⟨_, rfl, by simpa using ho, HB5.out.trans hb⟩
/-- A row that is stored where it stood. -/
theorem same_put {cur row : List Value} {i : Nat} (h : (cur.drop (8 * i)).take 8 = row) (hl : 8 * i + 8 ≤ cur.length) : cur.take (8 * i) ++ row ++ cur.drop (8 * i + 8) = cur := by
  rw [← h, List.append_assoc]
  conv => rhs; rw [← List.take_append_drop (8 * i) cur, ← List.take_append_drop 8 (cur.drop (8 * i)), List.drop_drop]
theorem own_row {cs : List Ce} {cur : List Value} (h : cur.take (8 * cs.length) = (rowsC cs).flatten) {i : Nat} (hi : i < cs.length) : (cur.drop (8 * i)).take 8 = (cs[i]).row := by
  have h1 : ((cur.take (8 * cs.length)).drop (8 * i)).take 8 = (cur.drop (8 * i)).take 8 := by
    rw [List.drop_take, List.take_take, Nat.min_eq_left (by omega)]
  rw [← h1, h]
  have e : (rowsC cs).flatten = ((rowsC cs).take i).flatten ++ ((rowsC cs).drop i).flatten := by rw [← List.flatten_append, List.take_append_drop]
  have hl : ((rowsC cs).take i).flatten.length = 8 * i := by rw [Rw.flat_len ((rowsC_all cs).take i), List.length_take, rowsC_len, Nat.min_eq_left (by omega)]
  rw [e, ← hl, List.drop_left]
  have e2 : (rowsC cs).drop i = (cs[i]).row :: (rowsC cs).drop (i + 1) := by
    rw [List.drop_eq_getElem_cons (by rw [rowsC_len]; exact hi)]
    simp [rowsC]
  rw [e2, List.flatten_cons]
  exact List.take_left' rfl
theorem own_range {w : World} {g : Nat} {cs : List Ce} {cur : List Value} (ha : Arr w g 68 cur) (h : cur.take (8 * cs.length) = (rowsC cs).flatten) {i : Nat} (hi : i < cs.length) : w.rangeAt g (0 + 8 * i) (cs[i]).row := by
  rw [← own_row h hi]
  intro j v hv
  rw [List.getElem?_take] at hv
  split at hv
  · rw [List.getElem?_drop] at hv
    have := ha.range (8 * i + j) v hv
    rw [show 0 + 8 * i + j = 0 + (8 * i + j) from by omega]; exact this
  · cases hv

theorem newC_id {c : Ce} (h : vaC c = true) : newC c.e = c := by
  unfold vaC at h
  simp only [Bool.and_eq_true, decide_eq_true_eq] at h
  obtain ⟨⟨-, h1⟩, h2⟩ := h
  unfold newC
  rw [h1, h2]
set_option maxHeartbeats 8000000 in
theorem owned_any (w : World) (v : Value) (cs : List Ce) (hv : CsAt w v cs) (hn : cs.length ≤ 1024) (hva : ∀ c ∈ cs, vaC c = true) :
    Calls Tryd.prog 55 #[v] w fun e w' => ∃ v', e = .returned v' ∧ OwnR 68 8 w' w.heap.size v' (rowsC cs) ∧ Below w.heap.size w w' := by
  have cl := hidp (cloneC_any w v cs hv hn)
  have HVA := hidp hva
  have HOK := hidp hv.ok
  have H := hidp (Mm.M.nil w)
  clear hva hv
  go_enter Tryd.func55, Tryd.ntmps55
  go_wp2_with (go_at_call 82; refine (cl.out).mono ?_; rintro e w1 ⟨v1, rfl, ho, hb⟩; have HO := hidp ho; have HB := hidp hb; have h2 := ho.2.2; clear ho hb; rcases h2 with ⟨rfl, h0⟩ | ⟨g, cap, cur0, rfl, hBg, hg, hnc, hcm, hcs, hct⟩)
  · rw [rowsC_len] at h0
    have hz : cs = [] := List.eq_nil_of_length_eq_zero h0
    subst hz
    go_wp2_with fail
    go_loopw [10] (fun t10 wr => t10 = .int .i64 0 ∧ w1 = wr) (fun t10 _ => 0)
    case atStart => exact ⟨rfl, rfl⟩
    case round =>
      obtain ⟨rfl, rfl⟩ := hrel
      go_wp2_with fail
      go_ret
      exact ⟨_, rfl, HO.out, HB.out⟩
  · obtain ⟨cur, rfl⟩ : ∃ l : List Value, cur0 = l.toArray := ⟨cur0.toList, by simp⟩
    obtain ⟨n, hnn⟩ : ∃ n, cs.length = n := ⟨_, rfl⟩
    have HN := hidp hnn
    have HCT := hidp (show cur.take (8 * cs.length) = (rowsC cs).flatten from by have h := hct; rw [rowsC_len, Nat.mul_comm] at h; simpa using h)
    have hcl : cur.length = cap * 8 := by simpa using hcs
    have hnc' : n ≤ cap := by rw [rowsC_len, hnn] at hnc; exact hnc
    rw [rowsC_len, hnn] at HO ⊢
    replace H := hidp (H.out.add (m := 0) HB.out hBg (show Arr w1 g 68 cur from hg))
    have HCM := hidp hcm; have HBG := hidp hBg
    clear hcs hct hg hnc HO hcm hBg HB
    go_wp2_with fail
    go_loopw [10] (fun t10 wr => ∃ i : Nat, t10 = .int .i64 (i : Int) ∧ i ≤ n ∧ Mm.M w.heap.size w wr [⟨g, 68, cur⟩]) (fun t10 _ => n - (intOf t10).toNat)
    case atStart => exact ⟨0, rfl, by omega, H.out⟩
    case round =>
      clear H
      obtain ⟨i, rfl, hi, hM⟩ := hrel
      have H := hidp hM
      clear hM
      by_cases hlt : i < n
      · have e1 : decide ((i : Int) < (n : Int)) = true := by simp; omega
        have hgl : i < cs.length := by rw [HN.out]; exact hlt
        obtain ⟨c, hge⟩ : ∃ c, cs[i] = c := ⟨_, rfl⟩
        have HRW := hidp (show ∀ W, Arr W g 68 cur → W.rangeAt g (0 + 8 * i) c.row from fun W ha => by rw [← hge]; exact own_range ha HCT.out hgl)
        have hcok := hidp (show c.ok from by rw [← hge]; exact HOK.out _ (List.getElem_mem hgl))
        have HNE := hidp (show (newC c.e).row = c.row from by rw [newC_id (by rw [← hge]; exact HVA.out _ (List.getElem_mem hgl))])
        have HSP := hidp (show cur.take (8 * i) ++ c.row ++ cur.drop (8 * i + 8) = cur from same_put (by rw [own_row HCT.out hgl, hge]) (by omega))
        have cf := hidp (fun W => cellOf_any W c.e hcok.out.e)
        clear hge
        go_wp2_with (first | (refine wpL_idxR tyC rfl (.tmp 8) (.tmp 10) rfl g 0 n cap i rfl rfl hlt ?_) | (refine wpL_atR tyC rfl (.tmp 13) rfl g (0 + 8 * i) c.row rfl rfl (HRW.out _ H.out.at0) ?_) | (refine Mm.new rtC H (some 5) rfl rfl rfl ?_; clear H; intro b5 _ H nw; have hb := nw.below; clear hb nw) | (refine Mm.put0 rtC H rfl (.tmp 5) (.tmp 14) c.row rfl rfl rfl rfl (Ce.one c) rfl ?_; intro _ H2 st; clear st H; have H := H2; clear H2) | (refine wpL_mid rtE rfl (.tmp 17) b5 2 c.e.row rfl rfl rfl (ce_evA H.out.at0) ?_) | (go_at_call 57; refine (cf.out _).mono ?_; rintro e _ ⟨rfl, hb⟩; replace H := hidp (H.out.call hb); clear hb) | (refine wpL_idxR tyC rfl (.tmp 15) (.tmp 16) rfl g 0 n cap i rfl rfl hlt ?_) | (refine wpL_putAt rtC rfl (.tmp 20) (.tmp 19) g (0 + 8 * i) 68 (newC c.e).row cur rfl rfl rfl rfl (Ce.one _) H.out.at1 (by omega) ?_; intro W9 ha st; replace H := hidp (H.out.put1 (show Arr W9 g 68 cur from by rw [Nat.zero_add, HNE.out, HSP.out] at ha; exact ha) st); clear ha st))
        exact ⟨⟨i + 1, by go_num, by omega, H.out.tail⟩, by simp [intOf]; omega⟩
      · have e1 : decide ((i : Int) < (n : Int)) = false := by simp; omega
        go_wp2_with fail
        go_ret
        refine ⟨_, rfl, ?_, H.out.below⟩
        have := OwnR.of_arr (k := 8) (T := 68) (B := w.heap.size) (cap := cap) (es := rowsC cs) (rowsC_all cs) H.out.at0 HBG.out (by rw [rowsC_len, HN.out]; exact hnc') HCM.out hcl (by rw [rowsC_len]; exact HCT.out)
        rw [rowsC_len, HN.out] at this
        exact this
end Go.Proofs.YtfenjincbhkodaaDoor

namespace Go.Proofs.YtfenjincbhkodaaDoor
set_option maxRecDepth 100000
set_option linter.unusedVariables false
set_option linter.unusedSimpArgs false
open Go.RowKit Rw

theorem rowsC_set (cs : List Ce) (i : Nat) (c : Ce) (hi : i < cs.length) : (rowsC (cs.set i c)).flatten = ((rowsC cs).flatten.take (8 * i)) ++ c.row ++ ((rowsC cs).flatten.drop (8 * i + 8)) := by
  have hl : ((rowsC cs).take i).flatten.length = 8 * i := by rw [Rw.flat_len ((rowsC_all cs).take i), List.length_take, rowsC_len, Nat.min_eq_left (by omega)]
  have hl2 : ((rowsC cs).take (i + 1)).flatten.length = 8 * i + 8 := by rw [Rw.flat_len ((rowsC_all cs).take (i + 1)), List.length_take, rowsC_len, Nat.min_eq_left (by omega)]; omega
  have e1 : (rowsC cs).flatten.take (8 * i) = ((rowsC cs).take i).flatten := by
    conv => lhs; rw [← List.take_append_drop i (rowsC cs), List.flatten_append]
    exact List.take_left' hl
  have e2 : (rowsC cs).flatten.drop (8 * i + 8) = ((rowsC cs).drop (i + 1)).flatten := by
    conv => lhs; rw [← List.take_append_drop (i + 1) (rowsC cs), List.flatten_append]
    exact List.drop_left' hl2
  rw [e1, e2]
  have : rowsC (cs.set i c) = (rowsC cs).take i ++ c.row :: (rowsC cs).drop (i + 1) := by
    unfold rowsC
    rw [List.map_set, List.set_eq_take_append_cons_drop, if_pos (by simpa using hi)]
  rw [this]; simp
theorem rowsC_ins (cs : List Ce) (i : Nat) (c : Ce) : (rowsC cs).take i ++ [c.row] ++ (rowsC cs).drop i = rowsC (cs.take i ++ [c] ++ cs.drop i) := by
  unfold rowsC; simp [List.map_take, List.map_drop]
theorem setV_bad {cs : List Ce} {e : Ev} (h : okS cs = false) : setV cs e = [] ∧ setE cs e = 2 := by unfold setV setE; simp [h]
theorem setV_not {cs : List Ce} {e : Ev} (h : okS cs = true) (g : lasB e = false) : setV cs e = cs ∧ setE cs e = 2 := by unfold setV setE; simp [h, g]
theorem setV_full {cs : List Ce} {e : Ev} (h : okS cs = true) (g : lasB e = true) (f : fndS cs (newC e) = false) (n : cs.length = 256) : setV cs e = cs ∧ setE cs e = 8 := by unfold setV setE; simp [h, g, f, n]
theorem setV_fnd {cs : List Ce} {e : Ev} (h : okS cs = true) (g : lasB e = true) (f : fndS cs (newC e) = true) : setV cs e = cs.set (posS cs (newC e)) (newC e) ∧ setE cs e = 0 := by unfold setV setE setL; simp [h, g, f]
theorem setV_ins {cs : List Ce} {e : Ev} (h : okS cs = true) (g : lasB e = true) (f : fndS cs (newC e) = false) (n : cs.length ≠ 256) : setV cs e = cs.take (posS cs (newC e)) ++ [newC e] ++ cs.drop (posS cs (newC e)) ∧ setE cs e = 0 := by unfold setV setE setL; simp [h, g, f, n]
theorem cs_own {w : World} {B : Nat} {v : Value} {cs : List Ce} (h : OwnR 68 8 w B v (rowsC cs)) (ok : ∀ c ∈ cs, c.ok) (hl : cs.length ≤ 140737488351232) : CsAt w v cs := ⟨h.rs, ok, hl⟩

theorem own_stpB {T k : Nat} {w W : World} {B b : Nat} {v : Value} {es : List (List Value)} (h : OwnR T k w B v es) (st : Rt.Stp b w W) (hne : v.ownBlock ≠ some b) : OwnR T k W B v es := by
  refine ⟨h.1, h.2.1, ?_⟩
  rcases h.2.2 with h0 | ⟨g, cap, cur, e, hB, hg, r⟩
  · exact .inl h0
  · refine .inr ⟨g, cap, cur, e, hB, (st.other g ?_).trans hg, r⟩
    rintro rfl
    exact hne (by rw [e]; rfl)
theorem own_lt {T k : Nat} {w : World} {B : Nat} {v : Value} {es : List (List Value)} (h : OwnR T k w B v es) : ∀ g, v.ownBlock = some g → g < w.heap.size := by
  intro g hg
  rcases h.2.2 with ⟨rfl, _⟩ | ⟨g', cap, cur, rfl, hB, hh, r⟩
  · cases hg
  · have : g' = g := by simpa [Value.ownBlock] using hg
    subst this
    exact (Array.getElem?_eq_some_iff.1 hh).1
set_option maxHeartbeats 16000000 in
theorem set_any (w : World) (v : Value) (cs : List Ce) (hv : CsAt w v cs) (e : Ev) (he : e.ok) (hI : IT w) :
    Calls Tryd.prog 26 #[v, .agg e.row.toArray] w fun x w' => ∃ v', x = .returned (.tuple #[v', .int .i64 (setE cs e)]) ∧ CsAt w' v' (setV cs e) ∧ Below w.heap.size w w' := by
  have HI := hidp hI; have HV := hidp hv; have HOK := hidp hv.ok
  have h47 := hv.len
  clear hI hv
  have ck := hidp (fun W h h' => stCheck_any W v cs h h')
  have H := hidp (Mm.M.nil w)
  cases hok : okS cs with
  | false =>
    rw [show ckS cs = 2 from if_neg (by rw [hok]; exact Bool.false_ne_true)] at ck
    have HSV := hidp (setV_bad (e := e) hok).1; have HSE := hidp (setV_bad (e := e) hok).2
    clear hok
    go_enter Tryd.func26, Tryd.ntmps26
    go_wp2_with (first | (refine Mm.box 59 H rfl (.tmp 1) rfl e.row rfl ?_; clear H; intro b3 _ H nw; have hb := nw.below; clear hb nw) | (go_at_call 29; refine (ck.out _ (HV.out.to H.out.below) (HI.out.below H.out.below (Nat.le_refl _))).mono ?_; rintro e _ ⟨rfl, hb⟩; replace H := hidp (H.out.call hb); clear hb))
    go_ret2
    exact ⟨_, by rw [HSE.out]; rfl, by rw [HSV.out]; exact CsAt.nil _, H.out.below⟩
  | true =>
    rw [show ckS cs = 0 from if_pos hok] at ck
    obtain ⟨hn256, hva, hp⟩ := (okS_iff cs).1 hok
    have co := hidp (fun W h => owned_any W v cs h (by omega) hva)
    have cl := hidp (fun W h => lasting_any W e he h)
    cases hla : lasB e with
    | false =>
      rw [hla] at cl
      have HSV := hidp (setV_not hok hla).1; have HSE := hidp (setV_not hok hla).2
      clear hok hla hva hp
      go_enter Tryd.func26, Tryd.ntmps26
      go_wp2_with (first | (refine Mm.box 59 H rfl (.tmp 1) rfl e.row rfl ?_; clear H; intro b3 _ H nw; have hb := nw.below; clear hb nw) | (go_at_call 29; refine (ck.out _ (HV.out.to H.out.below) (HI.out.below H.out.below (Nat.le_refl _))).mono ?_; rintro e _ ⟨rfl, hb⟩; replace H := hidp (H.out.call hb); clear hb) | (go_at_call 55; refine (co.out _ (HV.out.to H.out.below)).mono ?_; rintro x w2 ⟨v1, rfl, ho, hb⟩; have HO := hidp (ho.base H.out.le); replace H := hidp (H.out.call hb); clear ho hb) | (refine Mm.get0 rtE H rfl (.tmp 3) rfl rfl rfl ?_) | (go_at_call 56; refine (cl.out _ (HI.out.below H.out.below (Nat.le_refl _))).mono ?_; rintro e _ ⟨rfl, hb⟩; replace H := hidp (H.out.call hb); replace HO := hidp (HO.out.to hb (Nat.le_refl _)); clear hb))
      go_ret2
      exact ⟨_, by rw [HSE.out]; rfl, by rw [HSV.out]; exact cs_own HO.out HOK.out h47, H.out.below⟩
    | true =>
      rw [hla] at cl
      have cc := hidp (fun W => cellOf_any W e he)
      have cb := hidp (fun W v h => search_any W v cs h (newC e) hp hn256)
      obtain ⟨n, hnn⟩ : ∃ n, cs.length = n := ⟨_, rfl⟩
      have HN := hidp hnn
      have hple := posS_le cs (newC e)
      have HFN := hidp (fun h : fndS cs (newC e) = true => fnd_parts h)
      obtain ⟨ps, hps0⟩ : ∃ p, posS cs (newC e) = p := ⟨_, rfl⟩
      have hall : (fndS cs (newC e) = true → setV cs e = cs.set ps (newC e) ∧ setE cs e = 0) ∧ (fndS cs (newC e) = false → n = 256 → setV cs e = cs ∧ setE cs e = 8) ∧ (fndS cs (newC e) = false → n ≠ 256 → setV cs e = cs.take ps ++ [newC e] ++ cs.drop ps ∧ setE cs e = 0) :=
        ⟨fun h => hps0 ▸ setV_fnd hok hla h, fun h h2 => setV_full hok hla h (hnn.trans h2), fun h h2 => hps0 ▸ setV_ins hok hla h (by rw [hnn]; exact h2)⟩
      rw [hps0] at cb hple
      rw [hnn] at hple hn256
      have HALL := hidp hall
      have hfl : fndS cs (newC e) = true → ps < n := fun h => by obtain ⟨h1, _⟩ := HFN.out h; rw [hps0, hnn] at h1; exact h1
      clear hok hla hva hp hall hps0 hnn HFN
      cases hf : fndS cs (newC e) with
      | true =>
        rw [hf] at cb
        have HSV := hidp (HALL.out.1 hf).1; have HSE := hidp (HALL.out.1 hf).2
        have hps := hfl hf
        clear hf HALL hfl
        go_enter Tryd.func26, Tryd.ntmps26
        go_wp2_with (first | (refine Mm.box 59 H rfl (.tmp 1) rfl e.row rfl ?_; clear H; intro b3 _ H nw; have hb := nw.below; clear hb nw) | (go_at_call 29; refine (ck.out _ (HV.out.to H.out.below) (HI.out.below H.out.below (Nat.le_refl _))).mono ?_; rintro e _ ⟨rfl, hb⟩; replace H := hidp (H.out.call hb); clear hb) | (go_at_call 55; refine (co.out _ (HV.out.to H.out.below)).mono ?_; rintro x w2 ⟨v1, rfl, ho, hb⟩; have hbl := own_lt ho; obtain ⟨a1, c1, rfl⟩ := ho.rs.form; rw [rowsC_len, HN.out] at ho hbl ⊢; have HO := hidp (ho.base H.out.le); have HG := hidp hbl; replace H := hidp (H.out.call hb); clear ho hb hbl) | (refine Mm.get0 rtE H rfl (.tmp 3) rfl rfl rfl ?_) | (go_at_call 56; refine (cl.out _ (HI.out.below H.out.below (Nat.le_refl _))).mono ?_; rintro e _ ⟨rfl, hb⟩; replace H := hidp (H.out.call hb); clear cl; replace HO := hidp (HO.out.to hb (Nat.le_refl _)); replace HG := hidp (own_lt HO.out); clear hb) | (refine Mm.get0 rtE H rfl (.tmp 3) rfl rfl rfl ?_) | (go_at_call 57; refine (cc.out _).mono ?_; rintro e _ ⟨rfl, hb⟩; replace H := hidp (H.out.call hb); clear cc; replace HO := hidp (HO.out.to hb (Nat.le_refl _)); replace HG := hidp (own_lt HO.out); clear hb) | (refine Mm.new rtC H (some 8) rfl rfl rfl ?_; clear H; intro b8 _ H nw; have hb := nw.below; have hgb := hidp (show (Value.slice a1 n c1).ownBlock ≠ some b8 from fun h => Nat.lt_irrefl _ (Nat.lt_of_lt_of_le (HG.out _ h) nw.le)); replace HO := hidp (HO.out.to hb (Nat.le_refl _)); replace HG := hidp (own_lt HO.out); clear hb nw) | (refine Mm.put0 rtC H rfl (.tmp 8) (.tmp 23) (newC e).row rfl rfl rfl rfl (Ce.one _) rfl ?_; intro _ H2 st; replace HO := hidp (own_stpB HO.out st hgb.out); replace HG := hidp (own_lt HO.out); clear st H; have H := H2; clear H2) | (refine Mm.get0 rtC H rfl (.tmp 8) rfl rfl rfl ?_) | (go_at_call 58; refine (cb.out _ _ (cs_own HO.out HOK.out h47)).mono ?_; rintro e _ ⟨rfl, hb⟩; replace H := hidp (H.out.call hb); clear cb; replace HO := hidp (HO.out.to hb (Nat.le_refl _)); replace HG := hidp (own_lt HO.out); clear hb; obtain ⟨g, cap, cur, hv1, hBg, ha, h1, h2, h3, h4⟩ := HO.out.blk (by rw [rowsC_len, HN.out]; omega); simp only [Value.slice.injEq] at hv1; obtain ⟨rfl, -, rfl⟩ := hv1; have HCM := hidp h2; have HBG := hidp hBg; have HA := hidp ha; have HCT := hidp h4; rw [rowsC_len, HN.out] at h1; clear h2 h4 ha hBg HO HG) | (refine Mm.get0 rtC H rfl (.tmp 8) rfl rfl rfl ?_) | (refine wpL_idxR tyC rfl (.tmp 31) (.tmp 32) rfl g 0 n c1 ps rfl rfl hps ?_) | (refine wpL_putAt rtC rfl (.tmp 34) (.tmp 33) g (0 + 8 * ps) 68 (newC e).row cur rfl rfl rfl rfl (Ce.one _) HA.out (by omega) ?_; intro W9 ha st; rw [Nat.zero_add] at ha; have HNW := hidp ha; have HBW := hidp (st.below' H.out.below HBG.out); clear ha st))
        go_ret2
        refine ⟨_, by rw [HSE.out]; rfl, ?_, HBW.out⟩
        rw [HSV.out]
        have hl2 : (cs.set ps (newC e)).length = n := by rw [List.length_set]; exact HN.out
        have := OwnR.of_arr (k := 8) (T := 68) (B := w.heap.size) (cap := c1) (es := rowsC (cs.set ps (newC e))) (rowsC_all _) HNW.out HBG.out (by rw [rowsC_len, hl2]; exact h1) HCM.out (by simp [newC, Ce.row]; omega) (by
          have hct : cur.take (8 * n) = (rowsC cs).flatten := by have := HCT.out; rw [rowsC_len, HN.out] at this; exact this
          rw [rowsC_len, hl2, rowsC_set cs ps _ (by rw [HN.out]; exact hps), ← hct]
          have h1 : 8 * ps + 8 ≤ 8 * n := by omega
          have h2 : 8 * n ≤ cur.length := by omega
          rw [List.take_take, Nat.min_eq_left (by omega)]
          rw [List.append_assoc, List.take_append, List.take_of_length_le (by simp; omega)]
          rw [List.append_assoc]
          congr 1
          rw [List.take_append, List.take_of_length_le (by simp [newC, Ce.row]; omega)]
          congr 1
          rw [List.drop_take, List.length_take, Nat.min_eq_left (by omega)]
          congr 1)
        rw [rowsC_len, hl2] at this
        exact cs_own this (fun c hc => (List.mem_or_eq_of_mem_set hc).elim (HOK.out c) (fun h => h ▸ newC_ok he)) (by rw [hl2]; rw [HN.out] at h47; exact h47)
      | false =>
        rw [hf] at cb
        by_cases h256 : n = 256
        · have HSV := hidp (HALL.out.2.1 hf h256).1; have HSE := hidp (HALL.out.2.1 hf h256).2
          have e256 : ((n : Int) == 256) = true := by rw [h256]; rfl
          have HH := hidp h256
          clear hf HALL hfl h256
          go_enter Tryd.func26, Tryd.ntmps26
          go_wp2_with (first | (refine Mm.box 59 H rfl (.tmp 1) rfl e.row rfl ?_; clear H; intro b3 _ H nw; have hb := nw.below; clear hb nw) | (go_at_call 29; refine (ck.out _ (HV.out.to H.out.below) (HI.out.below H.out.below (Nat.le_refl _))).mono ?_; rintro e _ ⟨rfl, hb⟩; replace H := hidp (H.out.call hb); clear hb) | (go_at_call 55; refine (co.out _ (HV.out.to H.out.below)).mono ?_; rintro x w2 ⟨v1, rfl, ho, hb⟩; have hbl := own_lt ho; obtain ⟨a1, c1, rfl⟩ := ho.rs.form; rw [rowsC_len, HN.out] at ho hbl ⊢; have HO := hidp (ho.base H.out.le); have HG := hidp hbl; replace H := hidp (H.out.call hb); clear ho hb hbl) | (refine Mm.get0 rtE H rfl (.tmp 3) rfl rfl rfl ?_) | (go_at_call 56; refine (cl.out _ (HI.out.below H.out.below (Nat.le_refl _))).mono ?_; rintro e _ ⟨rfl, hb⟩; replace H := hidp (H.out.call hb); clear cl; replace HO := hidp (HO.out.to hb (Nat.le_refl _)); replace HG := hidp (own_lt HO.out); clear hb) | (refine Mm.get0 rtE H rfl (.tmp 3) rfl rfl rfl ?_) | (go_at_call 57; refine (cc.out _).mono ?_; rintro e _ ⟨rfl, hb⟩; replace H := hidp (H.out.call hb); clear cc; replace HO := hidp (HO.out.to hb (Nat.le_refl _)); replace HG := hidp (own_lt HO.out); clear hb) | (refine Mm.new rtC H (some 8) rfl rfl rfl ?_; clear H; intro b8 _ H nw; have hb := nw.below; have hgb := hidp (show (Value.slice a1 n c1).ownBlock ≠ some b8 from fun h => Nat.lt_irrefl _ (Nat.lt_of_lt_of_le (HG.out _ h) nw.le)); replace HO := hidp (HO.out.to hb (Nat.le_refl _)); replace HG := hidp (own_lt HO.out); clear hb nw) | (refine Mm.put0 rtC H rfl (.tmp 8) (.tmp 23) (newC e).row rfl rfl rfl rfl (Ce.one _) rfl ?_; intro _ H2 st; replace HO := hidp (own_stpB HO.out st hgb.out); replace HG := hidp (own_lt HO.out); clear st H; have H := H2; clear H2) | (refine Mm.get0 rtC H rfl (.tmp 8) rfl rfl rfl ?_) | (go_at_call 58; refine (cb.out _ _ (cs_own HO.out HOK.out h47)).mono ?_; rintro e _ ⟨rfl, hb⟩; replace H := hidp (H.out.call hb); clear cb; replace HO := hidp (HO.out.to hb (Nat.le_refl _)); replace HG := hidp (own_lt HO.out); clear hb))
          go_ret2
          refine ⟨_, by rw [HSE.out]; rfl, ?_, H.out.below⟩
          rw [HSV.out]
          exact cs_own HO.out HOK.out h47
        · have HSV := hidp (HALL.out.2.2 hf h256).1; have HSE := hidp (HALL.out.2.2 hf h256).2
          have e256 : ((n : Int) == 256) = false := by simp; omega
          clear hf HALL hfl
          go_enter Tryd.func26, Tryd.ntmps26
          go_wp2_with (first | (refine Mm.box 59 H rfl (.tmp 1) rfl e.row rfl ?_; clear H; intro b3 _ H nw; have hb := nw.below; clear hb nw) | (go_at_call 29; refine (ck.out _ (HV.out.to H.out.below) (HI.out.below H.out.below (Nat.le_refl _))).mono ?_; rintro e _ ⟨rfl, hb⟩; replace H := hidp (H.out.call hb); clear hb) | (go_at_call 55; refine (co.out _ (HV.out.to H.out.below)).mono ?_; rintro x w2 ⟨v1, rfl, ho, hb⟩; have hbl := own_lt ho; obtain ⟨a1, c1, rfl⟩ := ho.rs.form; rw [rowsC_len, HN.out] at ho hbl ⊢; have HO := hidp (ho.base H.out.le); have HG := hidp hbl; replace H := hidp (H.out.call hb); clear ho hb hbl) | (refine Mm.get0 rtE H rfl (.tmp 3) rfl rfl rfl ?_) | (go_at_call 56; refine (cl.out _ (HI.out.below H.out.below (Nat.le_refl _))).mono ?_; rintro e _ ⟨rfl, hb⟩; replace H := hidp (H.out.call hb); clear cl; replace HO := hidp (HO.out.to hb (Nat.le_refl _)); replace HG := hidp (own_lt HO.out); clear hb) | (refine Mm.get0 rtE H rfl (.tmp 3) rfl rfl rfl ?_) | (go_at_call 57; refine (cc.out _).mono ?_; rintro e _ ⟨rfl, hb⟩; replace H := hidp (H.out.call hb); clear cc; replace HO := hidp (HO.out.to hb (Nat.le_refl _)); replace HG := hidp (own_lt HO.out); clear hb) | (refine Mm.new rtC H (some 8) rfl rfl rfl ?_; clear H; intro b8 _ H nw; have hb := nw.below; have hgb := hidp (show (Value.slice a1 n c1).ownBlock ≠ some b8 from fun h => Nat.lt_irrefl _ (Nat.lt_of_lt_of_le (HG.out _ h) nw.le)); replace HO := hidp (HO.out.to hb (Nat.le_refl _)); replace HG := hidp (own_lt HO.out); clear hb nw) | (refine Mm.put0 rtC H rfl (.tmp 8) (.tmp 23) (newC e).row rfl rfl rfl rfl (Ce.one _) rfl ?_; intro _ H2 st; replace HO := hidp (own_stpB HO.out st hgb.out); replace HG := hidp (own_lt HO.out); clear st H; have H := H2; clear H2) | (refine Mm.get0 rtC H rfl (.tmp 8) rfl rfl rfl ?_) | (go_at_call 58; refine (cb.out _ _ (cs_own HO.out HOK.out h47)).mono ?_; rintro e _ ⟨rfl, hb⟩; replace H := hidp (H.out.call hb); clear cb; replace HO := hidp (HO.out.to hb (Nat.le_refl _)); replace HG := hidp (own_lt HO.out); clear hb) | (refine Mm.get0 rtC H rfl (.tmp 8) rfl rfl rfl ?_) | (refine wpL_bs1R tyC rfl (.tmp 42) rfl (newC e).row rfl rfl ?_; intro b43 _ nw; have hgc := hidp (show (Value.slice a1 n c1).ownBlock ≠ some b43 from fun h => Nat.lt_irrefl _ (Nat.lt_of_lt_of_le (HG.out _ h) nw.le)); replace HO := hidp (HO.out.to nw.below (Nat.le_refl _)); replace H := hidp (H.out.new nw); clear nw) | (go_at_call 60; refine (insert_own _ w.heap.size _ (rowsC cs) b43 (newC e).row ps HO.out (rowsC_one _) H.out.at0 rfl (Ce.one _) hgc.out (by rw [rowsC_len, HN.out]; omega) (by rw [rowsC_len, HN.out]; omega) H.out.le).mono ?_; rintro x w9 ⟨v9, rfl, ho9, hb9⟩; have HO9 := hidp ho9; have HB9 := hidp (H.out.below.trans hb9); clear ho9 hb9))
          go_ret2
          refine ⟨_, by rw [HSE.out]; rfl, ?_, HB9.out⟩
          have hh := HO9.out
          rw [rowsC_ins] at hh
          rw [HSV.out]
          refine cs_own hh (fun c hc => ?_) (by have := HN.out; simp; omega)
          simp only [List.mem_append, List.mem_singleton] at hc
          rcases hc with (hc | rfl) | hc
          · exact HOK.out c (List.mem_of_mem_take hc)
          · exact newC_ok he
          · exact HOK.out c (List.mem_of_mem_drop hc)
end Go.Proofs.YtfenjincbhkodaaDoor
