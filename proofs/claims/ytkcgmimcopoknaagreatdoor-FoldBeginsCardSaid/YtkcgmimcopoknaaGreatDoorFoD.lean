
/-
  fold: Clone, Next.
-/
import Derived.Test.YtkcgmimcopoknaaGreatDoorFoC
namespace Go.Proofs.YtkcgmimcopoknaaGreatDoor
set_option maxRecDepth 100000
set_option linter.unusedVariables false
set_option linter.unusedSimpArgs false
open Go.RowKit Rw
open List (getElem_toArray getElem_cons_zero getElem_cons_succ setIfInBounds_toArray set_cons_zero set_cons_succ)

theorem same_mid {cur row : List Value} {f k : Nat} (h : (cur.drop f).take k = row) : cur.take f ++ row ++ cur.drop (f + k) = cur := by
  rw [← h, List.append_assoc]
  conv => rhs; rw [← List.take_append_drop f cur, ← List.take_append_drop k (cur.drop f), List.drop_drop]
theorem same_one {cur : List Value} {f : Nat} {v : Value} (h : cur[f]? = some v) : cur.set f v = cur := by
  obtain ⟨h1, rfl⟩ := List.getElem?_eq_some_iff.1 h
  exact List.set_getElem_self h1
def OwnX (w : World) (N b1 b2 : Nat) (v : Value) (es : List (List Value)) : Prop := ∃ B, N ≤ B ∧ b1 < B ∧ b2 < B ∧ OwnR 96 8 w B v es
theorem OwnX.mk' {w : World} {N b1 b2 B : Nat} {v : Value} {es : List (List Value)} (h0 : N ≤ B) (h1 : b1 < B) (h2 : b2 < B) (h : OwnR 96 8 w B v es) : OwnX w N b1 b2 v es := ⟨B, h0, h1, h2, h⟩
theorem OwnX.stp {w W : World} {N b1 b2 : Nat} {v : Value} {es : List (List Value)} (h : OwnX w N b1 b2 v es) (st : Rt.Stp b1 w W) : OwnX W N b1 b2 v es := by
  obtain ⟨B, h0, h1, h2, h⟩ := h
  refine ⟨B, h0, h1, h2, own_stpB h st fun e => ?_⟩
  rcases h.2.2 with ⟨rfl, _⟩ | ⟨g, cap, cur, rfl, hB, _⟩
  · cases e
  · have : g = b1 := by simpa [Value.ownBlock] using e
    omega
theorem _root_.Go.Proofs.YtkcgmimcopoknaaGreatDoor.Mm.M.cons {N : Nat} {w0 W : World} {L : List Mm.Bx} {b t : Nat} {xs : List Value} (h : Mm.M N w0 W L) (hlt : ∀ x ∈ L, x.b < b) (hN : N ≤ b) (ha : Arr W b t xs) : Mm.M N w0 W (⟨b, t, xs⟩ :: L) := by
  refine ⟨h.below, h.le, fun x hx => ?_, List.Pairwise.cons hlt h.inc, fun x hx => ?_⟩
  · rcases List.mem_cons.1 hx with rfl | hx
    · exact hN
    · exact h.ge x hx
  · rcases List.mem_cons.1 hx with rfl | hx
    · exact ha
    · exact h.has x hx
theorem own_key {cs : List Ce} {cur : List Value} (h : cur.take (8 * cs.length) = (rowsC cs).flatten) {i : Nat} (hi : i < cs.length) : cur[8 * i + 1]? = some (.string (cs[i]).y) := by
  have h1 : ((cur.drop (8 * i)).take 8)[1]? = some (.string (cs[i]).y) := by rw [own_row h hi]; rfl
  rw [List.getElem?_take_of_lt (by omega), List.getElem?_drop] at h1
  exact h1
theorem own_ev {cs : List Ce} {cur : List Value} (h : cur.take (8 * cs.length) = (rowsC cs).flatten) {i : Nat} (hi : i < cs.length) : (cur.drop (8 * i + 2)).take 6 = (cs[i]).e.row := by
  have h1 : ((cur.drop (8 * i)).take 8).drop 2 = (cs[i]).e.row := by rw [own_row h hi]; rfl
  rw [List.drop_take, List.drop_drop] at h1
  exact h1

set_option maxHeartbeats 16000000 in
theorem foldClone_any (w : World) (v : Value) (cs : List Ce) (hv : CsAt w v cs) (hn1 : cs.length ≤ 1024) (h ep k : Int) :
    Calls Tryz.prog 46 #[.agg #[v, .int .i64 h, .int .i64 ep, .int .i64 k]] w fun x w' => ∃ y, x = .returned y ∧ (∃ a c, y = .agg #[.slice a cs.length c, .int .i64 h, .int .i64 ep, .int .i64 k] ∧ CsAt w' (.slice a cs.length c) cs) ∧ Below w.heap.size w w' := by
  have HV := hidp hv
  have cl := hidp (fun W h => cloneC_any W v cs h hn1)
  have HOK := hidp hv.ok
  obtain ⟨a0, c0, hv0⟩ := hv.form
  obtain ⟨n, hnn⟩ : ∃ n, cs.length = n := ⟨_, rfl⟩
  have HN := hidp hnn
  rw [hnn] at hv0 ⊢
  subst hv0
  have h47 : n ≤ 1024 := by rw [← hnn]; exact hn1
  clear hv hnn hn1
  have H := hidp (Mm.M.nil w)
  go_enter Tryz.func46, Tryz.ntmps46
  go_wp2_with (first | (refine Mm.box 35 H rfl (.tmp 0) rfl [.slice a0 n c0, .int .i64 h, .int .i64 ep, .int .i64 k] rfl ?_; clear H; intro b1 _ H nw; have hb := nw.below; clear hb nw) | (refine Mm.new rtR H (some 2) rfl rfl rfl ?_; clear H; intro b2 _ H nw; have hb := nw.below; clear hb nw) | (refine Mm.ld1 naSl H rfl (.tmp 5) 0 (.slice a0 n c0) rfl rfl rfl ?_) | (go_at_call 82; refine (cl.out _ (HV.out.to H.out.below)).mono ?_; rintro e w1 ⟨v1, rfl, ho, hb⟩; obtain ⟨a1, c1, rfl⟩ := ho.rs.form; rw [rowsC_len, HN.out] at ho ⊢; have HO := hidp (OwnX.mk' H.out.le H.out.at1.lt H.out.at0.lt ho); replace H := hidp (H.out.call hb); clear ho hb cl) | (refine Mm.putF1 H rfl 22 (.tmp 8) (.tmp 7) 0 (.slice a1 n c1) rfl rfl rfl (by kernel_rfl) rfl (of_decide_eq_true rfl) ?_; intro _ H2 st; replace HO := hidp (HO.out.stp st); clear st H; have H : Hid (Mm.M w.heap.size w _ ([⟨b2, 35, zR⟩, ⟨b1, 35, [.slice a1 n c1, .int .i64 h, .int .i64 ep, .int .i64 k]⟩])) := H2; clear H2) | (refine Mm.ld1 naSl H rfl (.tmp 9) 0 (.slice a1 n c1) rfl rfl rfl ?_))
  obtain ⟨B, hNB, hb1, hb2, ho⟩ := HO.out
  have h2 := ho.2.2
  rcases h2 with ⟨he, h0⟩ | ⟨g, cap, cur0, he, hBg, hg, hnc, hcm, hcs, hct⟩
  · rw [rowsC_len] at h0
    have hz : cs = [] := List.eq_nil_of_length_eq_zero h0
    have n0 : n = 0 := by rw [← HN.out]; exact h0
    subst n0
    simp only [Value.slice.injEq] at he
    obtain ⟨rfl, -, rfl⟩ := he
    clear HO ho hNB hb1 hb2
    go_loopw [12] (fun t12 wr => t12 = .int .i64 0 ∧ Mm.M w.heap.size w wr [⟨b2, 35, zR⟩, ⟨b1, 35, [.slice none 0 0, .int .i64 h, .int .i64 ep, .int .i64 k]⟩]) (fun t12 _ => 0)
    case atStart => exact ⟨rfl, H.out⟩
    case round =>
      clear H
      obtain ⟨rfl, hM⟩ := hrel
      have H := hidp hM
      clear hM
      go_wp2_with (first | (refine Mm.get1 rtR H rfl (.tmp 1) rfl rfl rfl ?_) | (refine Mm.put0 rtR H rfl (.tmp 2) (.tmp 36) [.slice none 0 0, .int .i64 h, .int .i64 ep, .int .i64 k] rfl rfl rfl rfl (by simp [Value.oneCell']) rfl ?_; intro _ H2 st; clear st H; have H := H2; clear H2))
      refine bodyPost_ret (Mm.ret_row rtR Tryz.results46 _ b2 _ rfl H.out.at0 rfl) rfl ⟨_, rfl, ⟨none, 0, rfl, by rw [hz]; exact CsAt.nil _⟩, H.out.below⟩
  · simp only [Value.slice.injEq] at he
    obtain ⟨rfl, -, rfl⟩ := he
    obtain ⟨cur, rfl⟩ : ∃ l : List Value, cur0 = l.toArray := ⟨cur0.toList, by simp⟩
    have HCT := hidp (show cur.take (8 * cs.length) = (rowsC cs).flatten from by have h := hct; rw [rowsC_len, Nat.mul_comm] at h; simpa using h)
    have hcl : cur.length = c1 * 8 := by simpa using hcs
    have hnc' : n ≤ c1 := by rw [rowsC_len, HN.out] at hnc; exact hnc
    replace H := hidp (H.out.cons (b := g) (t := 96) (xs := cur) (by simp; omega) (by omega) hg)
    have HCM := hidp hcm
    clear hcs hct hg hnc HO hcm ho hNB hb1 hb2 hBg
    go_loopw [12] (fun t12 wr => ∃ i : Nat, t12 = .int .i64 (i : Int) ∧ i ≤ n ∧ Mm.M w.heap.size w wr [⟨g, 96, cur⟩, ⟨b2, 35, zR⟩, ⟨b1, 35, [.slice (some ⟨g, 0, none⟩) n c1, .int .i64 h, .int .i64 ep, .int .i64 k]⟩]) (fun t12 _ => n - (intOf t12).toNat)
    case atStart => exact ⟨0, rfl, by omega, H.out⟩
    case round =>
      clear H
      obtain ⟨i, rfl, hi, hM⟩ := hrel
      have H := hidp hM
      clear hM
      by_cases hlt : i < n
      · have e1 : decide ((i : Int) < (n : Int)) = true := by simp; omega
        have hgl : i < cs.length := by rw [HN.out]; exact hlt
        obtain ⟨c, hge⟩ : ∃ c, cs[i] = c := ⟨_, rfl⟩
        have hy1 := hidp (own_key HCT.out hgl); rw [hge] at hy1
        have HSP := hidp (same_mid (own_ev HCT.out hgl)); rw [hge] at HSP
        have HRE := hidp (show ∀ W, Arr W g 96 cur → W.rangeAt g (8 * i + 2) c.e.row from fun W ha => by rw [← hge]; have := ce_ev (own_range ha HCT.out hgl); rw [Nat.zero_add] at this; exact this)
        have hcok := HOK.out _ (List.getElem_mem hgl); rw [hge] at hcok
        have ks := hidp (fun W => strClone_any c.y W hcok.y); have ke := hidp (fun W => clone_ev W c.e hcok.e)
        clear hge
        go_wp2_with (first | (refine Mm.ld2 naSl H rfl (.tmp 15) 0 (.slice (some ⟨g, 0, none⟩) n c1) rfl rfl rfl ?_) | (refine wpL_idxR tyC rfl (.tmp 16) (.tmp 17) rfl g 0 n _ i rfl rfl hlt ?_) | (refine Mm.ld0 naS H rfl (.tmp 22) (8 * i + 1) (.string c.y) rfl rfl hy1.out ?_) | (go_at_call 35; refine (ks.out _).mono ?_; rintro e _ ⟨rfl, hb⟩; replace H := hidp (H.out.call hb); clear hb) | (refine Mm.putF0 H rfl 9 (.tmp 26) (.tmp 24) (8 * i + 1) (.string c.y) rfl rfl rfl (by kernel_rfl) rfl (List.getElem?_eq_some_iff.1 hy1.out).1 ?_; intro _ H2 st; clear H st; have H3 := H2.out; rw [same_one hy1.out] at H3; have H := hidp H3; clear H2 H3) | (refine wpL_mid rtE rfl (.tmp 30) g (8 * i + 2) c.e.row rfl rfl rfl (HRE.out _ H.out.at0) ?_) | (go_at_call 34; refine (ke.out _).mono ?_; rintro e _ ⟨rfl, hb⟩; replace H := hidp (H.out.call hb); clear hb) | (refine wpL_putAt rtE rfl (.tmp 34) (.tmp 32) g (8 * i + 2) 96 c.e.row cur rfl rfl rfl rfl (Ev.one _) H.out.at0 (by omega) ?_; intro W9 ha st; replace H := hidp (H.out.put0 (show Arr W9 g 96 cur from by rw [HSP.out] at ha; exact ha) st); clear ha st))
        exact ⟨⟨i + 1, by go_num, by omega, H.out⟩, by simp [intOf]; omega⟩
      · have e1 : decide ((i : Int) < (n : Int)) = false := by simp; omega
        go_wp2_with (first | (refine Mm.get2 rtR H rfl (.tmp 1) rfl rfl rfl ?_) | (refine Mm.put1 rtR H rfl (.tmp 2) (.tmp 36) [.slice (some ⟨g, 0, none⟩) n c1, .int .i64 h, .int .i64 ep, .int .i64 k] rfl rfl rfl rfl (by simp [Value.oneCell']) rfl ?_; intro _ H2 st; clear st H; have H := H2; clear H2))
        refine bodyPost_ret (Mm.ret_row rtR Tryz.results46 _ b2 _ rfl H.out.at1 rfl) rfl ⟨_, rfl, ⟨some ⟨g, 0, none⟩, c1, rfl, ?_⟩, H.out.below⟩
        have := OwnR.of_arr (k := 8) (T := 96) (B := w.heap.size) (cap := c1) (es := rowsC cs) (rowsC_all cs) H.out.at0 (H.out.ge ⟨g, 96, cur⟩ (by simp)) (by rw [rowsC_len, HN.out]; exact hnc') HCM.out hcl (by rw [rowsC_len]; exact HCT.out)
        rw [rowsC_len, HN.out] at this
        exact cs_own this HOK.out (by rw [HN.out]; omega)

def nxE (r : Rm) (e : Ev) : Int := if rkE r = 0 then spE r e else 2
def nxR (r : Rm) (e : Ev) : Rm := if rkE r = 0 then spR r e else rm0
theorem rk_parts {r : Rm} (h : rkE r = 0) : 0 ≤ r.h ∧ r.h ≤ 63 ∧ 0 ≤ r.ep ∧ r.ep ≤ r.n ∧ r.n ≤ 4096 ∧ okS r.cs = true := by
  unfold rkE at h
  split at h
  · cases h
  · rename_i hc
    unfold ckS at h
    split at h
    · rename_i ho; refine ⟨by omega, by omega, by omega, by omega, by omega, ho⟩
    · cases h
theorem rk_two {r : Rm} (h : rkE r ≠ 0) : rkE r = 2 := by
  unfold rkE ckS at h ⊢
  split
  · rfl
  · rename_i hc
    rw [if_neg hc] at h
    split
    · rename_i ho; rw [if_pos ho] at h; exact absurd rfl h
    · rfl
/-- A drawn region that stores into the newest variable. -/
theorem regionT {P : Program} {ops : Array Oper} {a : Act} {w w0 : World} {N : Nat} {x : Mm.Bx} {L : List Mm.Bx} {Q : Exit → Act → World → Prop} {id : Nat} (H : Hid (Mm.M N w0 w (x :: L))) (s : Scr) (hm : P.follows .mixedOrders = true) (hs : Region.noSelect ops = true) (hd : s.depth ≤ ops.size) (hc : s.chk .any ops (Array.replicate ops.size false) = true)
    (h : ∀ U, Hid (Mm.M N w0 U (x :: L)) → Below w.heap.size w U → wpScr P ops (NoPanic Q) s (fun W => Mm.M N w0 W L) a U) : (Code.region id ops true).wp P Q a w :=
  wp_region_noPanic (wp_region_scr (S := fun W => Mm.M N w0 W L) s hm hs (fun _ _ _ _ _ h => h) hd hc H.out.drew.tail (h _ (hidp H.out.drew) (Below.refl _ _).drew))
theorem step_X (w : World) (v : Value) (cs : List Ce) (hv : CsAt w v cs) (hs : fitC cs) (h ep k : Int) (hk : -4611686018427387904 ≤ k ∧ k ≤ 4611686018427387904) (hep : -4611686018427387904 ≤ ep ∧ ep ≤ 4611686018427387904) (e : Ev) (he : e.fit) (R2 : Rm) (E2 : Int) (h1 : spR ⟨cs, h, ep, k⟩ e = R2) (h2 : spE ⟨cs, h, ep, k⟩ e = E2) (hP : PT w) :
    Calls Tryz.prog 40 #[.agg #[v, .int .i64 h, .int .i64 ep, .int .i64 k], .agg e.row.toArray] w fun x w' => ∃ y, x = .returned y ∧ (∃ v', y = .tuple #[.agg #[v', .int .i64 R2.h, .int .i64 R2.ep, .int .i64 R2.n], .int .i64 E2] ∧ CsAt w' v' R2.cs) ∧ Below w.heap.size w w' := by
  subst h1 h2
  exact (step_any w v cs hv hs h ep k hk hep e he hP).mono fun x w' ⟨v', h1, h2, h3⟩ => ⟨_, h1, ⟨v', rfl, h2⟩, h3⟩
set_option maxHeartbeats 16000000 in
theorem next_room (w : World) (v : Value) (cs : List Ce) (hv : CsAt w v cs) (hs : fitC cs) (h ep k : Int) (e : Ev) (he : e.fit) (hP : PT w) :
    Calls Tryz.prog 18 #[.agg #[v, .int .i64 h, .int .i64 ep, .int .i64 k], .agg e.row.toArray] w fun x w' => ∃ v', x = .returned (.tuple #[.agg #[v', .int .i64 (nxR ⟨cs, h, ep, k⟩ e).h, .int .i64 (nxR ⟨cs, h, ep, k⟩ e).ep, .int .i64 (nxR ⟨cs, h, ep, k⟩ e).n], .int .i64 (nxE ⟨cs, h, ep, k⟩ e)]) ∧ CsAt w' v' (nxR ⟨cs, h, ep, k⟩ e).cs ∧ Below w.heap.size w w' := by
  have HP := hidp hP; have HV := hidp hv
  have fk := hidp (fun W h1 h2 => foldCheck_any W v cs h1 h ep k h2)
  obtain ⟨a0, c0, hv0⟩ := hv.form
  have H := hidp (Mm.M.nil w)
  by_cases hz : rkE ⟨cs, h, ep, k⟩ = 0
  · obtain ⟨q1, q2, q3, q4, q5, q6⟩ := rk_parts hz
    simp only at q1 q2 q3 q4 q5 q6
    have hlen : cs.length ≤ 1024 := by have := ((okS_iff cs).1 q6).1; omega
    have fc := hidp (fun W h1 => foldClone_any W v cs h1 hlen h ep k)
    obtain ⟨R2, hR2⟩ : ∃ R, spR ⟨cs, h, ep, k⟩ e = R := ⟨_, rfl⟩
    obtain ⟨E2, hE2⟩ : ∃ R, spE ⟨cs, h, ep, k⟩ e = R := ⟨_, rfl⟩
    have HE := hidp (show nxE ⟨cs, h, ep, k⟩ e = E2 from (if_pos hz).trans hE2)
    have HR := hidp (show nxR ⟨cs, h, ep, k⟩ e = R2 from (if_pos hz).trans hR2)
    have st1 := hidp (fun W v h1 h2 => step_X W v cs h1 hs h ep k (by omega) (by omega) e he R2 E2 hR2 hE2 h2)
    rw [hz] at fk
    obtain ⟨n, hn⟩ : ∃ n, cs.length = n := ⟨_, rfl⟩
    rw [hn] at hv0 fc
    subst hv0
    clear hn hv hs hP hz q1 q2 q3 q4 q5 q6 hlen hR2 hE2
    go_enter Tryz.func18, Tryz.ntmps18
    go_wp2_with (first | (refine Mm.box 35 H rfl (.tmp 0) rfl [.slice a0 n c0, .int .i64 h, .int .i64 ep, .int .i64 k] rfl ?_; clear H; intro b2 _ H nw; have hb := nw.below; clear hb nw) | (refine Mm.box 25 H rfl (.tmp 1) rfl e.row rfl ?_; clear H; intro b3 _ H nw; have hb := nw.below; clear hb nw) | (refine Mm.new rtR H (some 4) rfl rfl rfl ?_; clear H; intro b4 _ H nw; have hb := nw.below; clear hb nw) | (refine Mm.get2 rtR H rfl (.tmp 2) rfl rfl rfl ?_) | (go_at_call 39; refine (fk.out _ (HV.out.to H.out.below) (HP.out.below H.out.below (Nat.le_refl _))).mono ?_; rintro e _ ⟨rfl, hb⟩; replace H := hidp (H.out.call hb); clear fk; clear hb))
    refine regionT H (.take 0 (.take 2 (.one 1 (.one 3 (.take 4 (.take 5 (.one 6 (.take 7 .done)))))))) (by kernel_rfl) (by kernel_rfl) (by simp [Scr.depth]) (by kernel_rfl) ?_
    clear H
    intro _ H hb
    clear hb
    refine Mm.sget1 rtR (fun w h => h) rfl rfl (.tmp 2) rfl rfl rfl ?_
    simp only [Act.put, getElem_toArray, getElem_cons_zero, getElem_cons_succ, setIfInBounds_toArray, set_cons_zero, set_cons_succ]
    refine Mm.sget0 rtE (fun w h => h) rfl rfl (.tmp 3) rfl rfl rfl ?_
    simp only [Act.put, getElem_toArray, getElem_cons_zero, getElem_cons_succ, setIfInBounds_toArray, set_cons_zero, set_cons_succ]
    refine Mm.o_callX H (fun W h => h.tail) rfl rfl 46 (#[.agg #[.slice a0 n c0, .int .i64 h, .int .i64 ep, .int .i64 k]]) (by go_simp; first | done | rfl) (fc.out _ (HV.out.to H.out.below)) ?_
    clear H
    intro y1 _ H hr hb
    obtain ⟨a1, c1, rfl, hq⟩ := hr
    have HS := hidp (show CsAt _ _ cs from hq)
    clear hq
    clear hb
    simp only [Act.put, getElem_toArray, getElem_cons_zero, getElem_cons_succ, setIfInBounds_toArray, set_cons_zero, set_cons_succ]
    refine Mm.o_callX H (fun W h => h.tail) rfl rfl 40 (#[.agg #[.slice a1 n c1, .int .i64 h, .int .i64 ep, .int .i64 k], .agg e.row.toArray]) (by go_simp; first | done | rfl) (st1.out _ _ HS.out (HP.out.below H.out.below (Nat.le_refl _))) ?_
    clear H
    intro y2 _ H hr hb
    obtain ⟨v2, rfl, hq⟩ := hr
    obtain ⟨a2, c2, rfl⟩ := hq.form
    clear HS
    have HS := hidp hq
    clear hq
    clear hb
    simp only [Act.put, getElem_toArray, getElem_cons_zero, getElem_cons_succ, setIfInBounds_toArray, set_cons_zero, set_cons_succ]
    apply s_val
    case ho | hw => rfl
    case hv => intro w hw; go_simp; first | done | with_reducible rfl | rfl
    simp only [Act.put, getElem_toArray, getElem_cons_zero, getElem_cons_succ, setIfInBounds_toArray, set_cons_zero, set_cons_succ]
    apply s_val
    case ho | hw => rfl
    case hv => intro w hw; go_simp; first | done | with_reducible rfl | rfl
    simp only [Act.put, getElem_toArray, getElem_cons_zero, getElem_cons_succ, setIfInBounds_toArray, set_cons_zero, set_cons_succ]
    refine Mm.oput0 rtR H [.slice a2 R2.cs.length c2, .int .i64 R2.h, .int .i64 R2.ep, .int .i64 R2.n] (fun W h => h.tail) rfl rfl (.tmp 4) (.tmp 17) rfl rfl rfl rfl (by simp [Value.oneCell']) rfl ?_
    intro _ H2 st
    replace HS := hidp (HS.out.stp st H.out.at0 (by simp [zR])); clear st H
    have H := H2
    clear H2
    simp only [Act.put, getElem_toArray, getElem_cons_zero, getElem_cons_succ, setIfInBounds_toArray, set_cons_zero, set_cons_succ]
    apply s_val
    case ho | hw => rfl
    case hv => intro w hw; go_simp; first | done | with_reducible rfl | rfl
    simp only [Act.put, getElem_toArray, getElem_cons_zero, getElem_cons_succ, setIfInBounds_toArray, set_cons_zero, set_cons_succ]
    refine NoPanic.normal ?_
    go_wp2_with fail
    refine bodyPost_ret (Mm.ret_rowv rtR Tryz.results18 _ b4 _ _ rfl rfl H.out.at0 rfl) rfl ⟨_, by rw [HE.out, HR.out]; rfl, by rw [HR.out]; exact HS.out, H.out.below⟩
  · rw [rk_two hz] at fk
    have HE := hidp (show nxE ⟨cs, h, ep, k⟩ e = 2 from if_neg hz)
    have HR := hidp (show nxR ⟨cs, h, ep, k⟩ e = rm0 from if_neg hz)
    obtain ⟨n, hn⟩ : ∃ n, cs.length = n := ⟨_, rfl⟩
    rw [hn] at hv0
    subst hv0
    clear hn hv hs hP hz
    go_enter Tryz.func18, Tryz.ntmps18
    go_wp2_with (first | (refine Mm.box 35 H rfl (.tmp 0) rfl [.slice a0 n c0, .int .i64 h, .int .i64 ep, .int .i64 k] rfl ?_; clear H; intro b2 _ H nw; have hb := nw.below; clear hb nw) | (refine Mm.box 25 H rfl (.tmp 1) rfl e.row rfl ?_; clear H; intro b3 _ H nw; have hb := nw.below; clear hb nw) | (refine Mm.new rtR H (some 4) rfl rfl rfl ?_; clear H; intro b4 _ H nw; have hb := nw.below; clear hb nw) | (refine Mm.get2 rtR H rfl (.tmp 2) rfl rfl rfl ?_) | (go_at_call 39; refine (fk.out _ (HV.out.to H.out.below) (HP.out.below H.out.below (Nat.le_refl _))).mono ?_; rintro e _ ⟨rfl, hb⟩; replace H := hidp (H.out.call hb); clear fk; clear hb) | (refine Rt.wpL_build rfl 35 _ rfl zR (by kernel_rfl) ?_) | (refine Mm.put0 rtR H rfl (.tmp 4) (.tmp 11) zR rfl rfl rfl rfl (by simp [zR, Value.oneCell']) rfl ?_; intro _ H2 st; clear st H; have H := H2; clear H2))
    refine bodyPost_ret (Mm.ret_rowv rtR Tryz.results18 _ b4 _ _ rfl rfl H.out.at0 rfl) rfl ⟨_, by rw [HE.out, HR.out]; rfl, by rw [HR.out]; exact CsAt.nil _, H.out.below⟩
end Go.Proofs.YtkcgmimcopoknaaGreatDoor
