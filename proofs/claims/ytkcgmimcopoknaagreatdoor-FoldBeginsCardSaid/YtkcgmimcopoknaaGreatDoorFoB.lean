
/-
  fold: counted, step.
-/
import Derived.Test.YtkcgmimcopoknaaGreatDoorAuI
import Derived.Test.YtkcgmimcopoknaaGreatDoorAuF
import Derived.Test.YtkcgmimcopoknaaGreatDoorFoA
namespace Go.Proofs.YtkcgmimcopoknaaGreatDoor
set_option maxRecDepth 100000
set_option linter.unusedVariables false
set_option linter.unusedSimpArgs false
open Go.RowKit Rw
open List (getElem_toArray getElem_cons_zero getElem_cons_succ setIfInBounds_toArray set_cons_zero set_cons_succ)

def zR : List Value := [.slice none 0 0, .int .i64 0, .int .i64 0, .int .i64 0]
theorem rtR : Rt.RT Tryz.prog 35 4 zR := ⟨rfl, .inl ⟨_, Tryz.underlying35⟩, by kernel_rfl⟩
theorem naSl : Mm.NA Tryz.prog 22 := ⟨_, Tryz.underlying22, rfl⟩
theorem CsAt.ltB {w : World} {v : Value} {cs : List Ce} (h : CsAt w v cs) : ∀ B o n c, v = Value.slice (some ⟨B, o, none⟩) n c → B < w.heap.size := by
  intro B o n c hv
  rcases h.rs.2 with ⟨h0, _⟩ | ⟨B', o', c', e, hc, hB, hr⟩
  · rw [h0] at hv; cases hv
  · rw [e] at hv
    simp only [Value.slice.injEq, Option.some.injEq, Addr.mk.injEq] at hv
    obtain ⟨⟨rfl, -, -⟩, -, -⟩ := hv
    exact hB
/-- The cells do not lie in this block. -/
def farB (v : Value) (b : Nat) : Prop := ∀ B o n c, v = Value.slice (some ⟨B, o, none⟩) n c → B ≠ b
theorem CsAt.far {w : World} {v : Value} {cs : List Ce} {b : Nat} (h : CsAt w v cs) (hb : w.heap.size ≤ b) : farB v b := fun B o n c e => by have := h.ltB B o n c e; omega
theorem CsAt.stpN {w W : World} {v : Value} {cs : List Ce} {b : Nat} (h : CsAt w v cs) (st : Rt.Stp b w W) (hne : farB v b) : CsAt W v cs := by
  refine ⟨⟨h.rs.1, ?_⟩, h.ok, h.len⟩
  rcases h.rs.2 with h0 | ⟨B, o, c, e, hc, hB, hr⟩
  · exact .inl h0
  · refine .inr ⟨B, o, c, e, hc, by rw [st.size]; exact hB, fun j u hj => ?_⟩
    have hcell : W.cell? ⟨B, o + j, none⟩ = w.cell? ⟨B, o + j, none⟩ := World.cell?_of_block (w := w) (st.other B (hne _ _ _ _ e))
    rw [hcell]; exact hr j u hj
theorem whoV_eq (o : Option Nat) : whoV o = .tuple #[.int .i64 ((o.getD 0 : Nat) : Int), .bool o.isSome] := by cases o <;> rfl
theorem nxV_eq (o : Option Int) : nxV o = .tuple #[.int .i64 (o.getD 0), .bool o.isSome] := by cases o <;> rfl
theorem state_b (w : World) (k : Nat) (hk : k < 256) : Calls Tryz.prog 75 #[.int .u8 (k : Int)] w fun e w' => e = .returned (.bool (stB k)) ∧ Below w.heap.size w w' := same_bs (state_any w k hk)

set_option maxHeartbeats 8000000 in
theorem counted_any (w : World) (a : Option Addr) (n c : Nat) (h ep k : Int) (e : Ev) (he : e.ok) (hk : -4611686018427387904 ≤ k ∧ k ≤ 4611686018427387904) (hep : -4611686018427387904 ≤ ep ∧ ep ≤ 4611686018427387904) (hP : PT w) :
    Calls Tryz.prog 76 #[.agg #[.slice a n c, .int .i64 h, .int .i64 ep, .int .i64 k], .agg e.row.toArray] w fun x w' => x = .returned (.agg #[.slice a n c, .int .i64 (hubK (h, ep) e).1, .int .i64 (hubK (h, ep) e).2, .int .i64 (k + 1)]) ∧ Below w.heap.size w w' := by
  have HP := hidp hP
  have hw1 : IntKind.i64.wrap (k + 1) = k + 1 := by rw [IntKind.wrap_i64]; omega
  have hw2 : IntKind.i64.wrap (ep + 1) = ep + 1 := by rw [IntKind.wrap_i64]; omega
  have cr := hidp (fun W h => room_any W e.room he.r h); have cn := hidp (fun W h => next_any W e.body he.b h)
  simp only [whoV_eq] at cr
  simp only [nxV_eq] at cn
  clear hk hep hP he
  have H := hidp (Mm.M.nil w)
  by_cases h1 : e.kind = 1
  · have k1 : ((e.kind : Int) == 1) = true := by rw [h1]; rfl
    have k8 : ((e.kind : Int) == 8) = false := by rw [h1]; rfl
    have HF := hidp (show hubK (h, ep) e = ((((who 2 e.room).getD 0 : Nat) : Int), ep) from if_pos h1)
    obtain ⟨hb0, hhb⟩ : ∃ z : Int, (((who 2 e.room).getD 0 : Nat) : Int) = z := ⟨_, rfl⟩
    rw [hhb] at HF cr
    clear h1 hhb
    go_enter Tryz.func76, Tryz.ntmps76
    go_wp2_with (first | (refine Mm.box 35 H rfl (.tmp 0) rfl [.slice a n c, .int .i64 h, .int .i64 ep, .int .i64 k] rfl ?_; clear H; intro b2 _ H nw; have hb := nw.below; clear hb nw) | (refine Mm.box 25 H rfl (.tmp 1) rfl e.row rfl ?_; clear H; intro b3 _ H nw; have hb := nw.below; clear hb nw) | (refine Mm.new rtR H (some 4) rfl rfl rfl ?_; clear H; intro b4 _ H nw; have hb := nw.below; clear hb nw) | (refine Mm.ld2 naInt H rfl (.tmp 5) 3 (.int .i64 k) rfl rfl rfl ?_) | (refine Mm.putF2 H rfl 3 (.tmp 8) (.tmp 7) 3 (.int .i64 (k + 1)) rfl rfl rfl (by kernel_rfl) rfl (of_decide_eq_true rfl) ?_; intro _ H2 st; clear st H; have H : Hid (Mm.M w.heap.size w _ ([⟨b4, 35, zR⟩, ⟨b3, 25, e.row⟩, ⟨b2, 35, [.slice a n c, .int .i64 h, .int .i64 ep, .int .i64 (k + 1)]⟩])) := H2; clear H2) | (refine Mm.ld1 naK H rfl (.tmp 9) 2 (.int .u8 (e.kind : Int)) rfl rfl rfl ?_) | (refine Mm.ld1 naS H rfl (.tmp 14) 0 (.string e.room) rfl rfl rfl ?_) | (go_at_call 15; refine (cr.out _ (HP.out.1.below H.out.below (Nat.le_refl _))).mono ?_; rintro e _ ⟨rfl, hb⟩; replace H := hidp (H.out.call hb); clear hb) | (refine Mm.putF2 H rfl 3 (.tmp 19) (.tmp 17) 1 (.int .i64 hb0) rfl rfl rfl (by kernel_rfl) rfl (of_decide_eq_true rfl) ?_; intro _ H2 st; clear st H; have H : Hid (Mm.M w.heap.size w _ ([⟨b4, 35, zR⟩, ⟨b3, 25, e.row⟩, ⟨b2, 35, [.slice a n c, .int .i64 hb0, .int .i64 ep, .int .i64 (k + 1)]⟩])) := H2; clear H2) | (refine Mm.get2 rtR H rfl (.tmp 2) rfl rfl rfl ?_) | (refine Mm.put0 rtR H rfl (.tmp 4) (.tmp 33) [.slice a n c, .int .i64 hb0, .int .i64 ep, .int .i64 (k + 1)] rfl rfl rfl rfl (by simp [Value.oneCell']) rfl ?_; intro _ H2 st; clear st H; have H := H2; clear H2))
    refine bodyPost_ret (Mm.ret_row rtR Tryz.results76 _ b4 _ rfl H.out.at0 rfl) rfl ⟨by rw [HF.out], H.out.below⟩
  · have k1 : ((e.kind : Int) == 1) = false := by rw [beq_eq_false_iff_ne]; omega
    by_cases h8 : e.kind = 8
    · have k8 : ((e.kind : Int) == 8) = true := by rw [h8]; rfl
      have HF := hidp (show hubK (h, ep) e = ((nxO e.body).getD 0, ep + 1) from (if_neg h1).trans (if_pos h8))
      obtain ⟨hb0, hhb⟩ : ∃ z : Int, (nxO e.body).getD 0 = z := ⟨_, rfl⟩
      rw [hhb] at HF cn
      clear h1 h8 hhb
      go_enter Tryz.func76, Tryz.ntmps76
      go_wp2_with (first | (refine Mm.box 35 H rfl (.tmp 0) rfl [.slice a n c, .int .i64 h, .int .i64 ep, .int .i64 k] rfl ?_; clear H; intro b2 _ H nw; have hb := nw.below; clear hb nw) | (refine Mm.box 25 H rfl (.tmp 1) rfl e.row rfl ?_; clear H; intro b3 _ H nw; have hb := nw.below; clear hb nw) | (refine Mm.new rtR H (some 4) rfl rfl rfl ?_; clear H; intro b4 _ H nw; have hb := nw.below; clear hb nw) | (refine Mm.ld2 naInt H rfl (.tmp 5) 3 (.int .i64 k) rfl rfl rfl ?_) | (refine Mm.putF2 H rfl 3 (.tmp 8) (.tmp 7) 3 (.int .i64 (k + 1)) rfl rfl rfl (by kernel_rfl) rfl (of_decide_eq_true rfl) ?_; intro _ H2 st; clear st H; have H : Hid (Mm.M w.heap.size w _ ([⟨b4, 35, zR⟩, ⟨b3, 25, e.row⟩, ⟨b2, 35, [.slice a n c, .int .i64 h, .int .i64 ep, .int .i64 (k + 1)]⟩])) := H2; clear H2) | (refine Mm.ld1 naK H rfl (.tmp 9) 2 (.int .u8 (e.kind : Int)) rfl rfl rfl ?_) | (refine Mm.ld1 naS H rfl (.tmp 23) 4 (.string e.body) rfl rfl rfl ?_) | (go_at_call 16; refine (cn.out _ (HP.out.below H.out.below (Nat.le_refl _))).mono ?_; rintro e _ ⟨rfl, hb⟩; replace H := hidp (H.out.call hb); clear hb) | (refine Mm.putF2 H rfl 3 (.tmp 28) (.tmp 26) 1 (.int .i64 hb0) rfl rfl rfl (by kernel_rfl) rfl (of_decide_eq_true rfl) ?_; intro _ H2 st; clear st H; have H : Hid (Mm.M w.heap.size w _ ([⟨b4, 35, zR⟩, ⟨b3, 25, e.row⟩, ⟨b2, 35, [.slice a n c, .int .i64 hb0, .int .i64 ep, .int .i64 (k + 1)]⟩])) := H2; clear H2) | (refine Mm.ld2 naInt H rfl (.tmp 29) 2 (.int .i64 ep) rfl rfl rfl ?_) | (refine Mm.putF2 H rfl 3 (.tmp 32) (.tmp 31) 2 (.int .i64 (ep + 1)) rfl rfl rfl (by kernel_rfl) rfl (of_decide_eq_true rfl) ?_; intro _ H2 st; clear st H; have H : Hid (Mm.M w.heap.size w _ ([⟨b4, 35, zR⟩, ⟨b3, 25, e.row⟩, ⟨b2, 35, [.slice a n c, .int .i64 hb0, .int .i64 (ep + 1), .int .i64 (k + 1)]⟩])) := H2; clear H2) | (refine Mm.get2 rtR H rfl (.tmp 2) rfl rfl rfl ?_) | (refine Mm.put0 rtR H rfl (.tmp 4) (.tmp 33) [.slice a n c, .int .i64 hb0, .int .i64 (ep + 1), .int .i64 (k + 1)] rfl rfl rfl rfl (by simp [Value.oneCell']) rfl ?_; intro _ H2 st; clear st H; have H := H2; clear H2))
      refine bodyPost_ret (Mm.ret_row rtR Tryz.results76 _ b4 _ rfl H.out.at0 rfl) rfl ⟨by rw [HF.out], H.out.below⟩
    · have k8 : ((e.kind : Int) == 8) = false := by rw [beq_eq_false_iff_ne]; omega
      have HF := hidp (show hubK (h, ep) e = (h, ep) from (if_neg h1).trans (if_neg h8))
      clear h1 h8
      go_enter Tryz.func76, Tryz.ntmps76
      go_wp2_with (first | (refine Mm.box 35 H rfl (.tmp 0) rfl [.slice a n c, .int .i64 h, .int .i64 ep, .int .i64 k] rfl ?_; clear H; intro b2 _ H nw; have hb := nw.below; clear hb nw) | (refine Mm.box 25 H rfl (.tmp 1) rfl e.row rfl ?_; clear H; intro b3 _ H nw; have hb := nw.below; clear hb nw) | (refine Mm.new rtR H (some 4) rfl rfl rfl ?_; clear H; intro b4 _ H nw; have hb := nw.below; clear hb nw) | (refine Mm.ld2 naInt H rfl (.tmp 5) 3 (.int .i64 k) rfl rfl rfl ?_) | (refine Mm.putF2 H rfl 3 (.tmp 8) (.tmp 7) 3 (.int .i64 (k + 1)) rfl rfl rfl (by kernel_rfl) rfl (of_decide_eq_true rfl) ?_; intro _ H2 st; clear st H; have H : Hid (Mm.M w.heap.size w _ ([⟨b4, 35, zR⟩, ⟨b3, 25, e.row⟩, ⟨b2, 35, [.slice a n c, .int .i64 h, .int .i64 ep, .int .i64 (k + 1)]⟩])) := H2; clear H2) | (refine Mm.ld1 naK H rfl (.tmp 9) 2 (.int .u8 (e.kind : Int)) rfl rfl rfl ?_) | (refine Mm.get2 rtR H rfl (.tmp 2) rfl rfl rfl ?_) | (refine Mm.put0 rtR H rfl (.tmp 4) (.tmp 33) [.slice a n c, .int .i64 h, .int .i64 ep, .int .i64 (k + 1)] rfl rfl rfl rfl (by simp [Value.oneCell']) rfl ?_; intro _ H2 st; clear st H; have H := H2; clear H2))
      refine bodyPost_ret (Mm.ret_row rtR Tryz.results76 _ b4 _ rfl H.out.at0 rfl) rfl ⟨by rw [HF.out], H.out.below⟩

set_option maxHeartbeats 16000000 in
theorem step_any (w : World) (v : Value) (cs : List Ce) (hv : CsAt w v cs) (hs : fitC cs) (h ep k : Int) (hk : -4611686018427387904 ≤ k ∧ k ≤ 4611686018427387904) (hep : -4611686018427387904 ≤ ep ∧ ep ≤ 4611686018427387904) (e : Ev) (he : e.fit) (hP : PT w) :
    Calls Tryz.prog 40 #[.agg #[v, .int .i64 h, .int .i64 ep, .int .i64 k], .agg e.row.toArray] w fun x w' => ∃ v', x = .returned (.tuple #[.agg #[v', .int .i64 (spR ⟨cs, h, ep, k⟩ e).h, .int .i64 (spR ⟨cs, h, ep, k⟩ e).ep, .int .i64 (spR ⟨cs, h, ep, k⟩ e).n], .int .i64 (spE ⟨cs, h, ep, k⟩ e)]) ∧ CsAt w' v' (spR ⟨cs, h, ep, k⟩ e).cs ∧ Below w.heap.size w w' := by
  have HP := hidp hP; have HV := hidp hv
  have ca := hidp (fun W h1 h2 => aallowed_any W v cs h1 hs e he.1 he.2.1 h2)
  have cs1 := hidp (fun W => state_b W e.kind he.1.k)
  have cz := hidp (fun W h1 h2 => set_any W v cs h1 e he.1 h2)
  have cn := hidp (fun W a n c h1 => counted_any W a n c h ep k e he.1 hk hep h1)
  obtain ⟨a0, c0, hv0⟩ := hv.form
  obtain ⟨p1, hp1⟩ : ∃ z, (hubK (h, ep) e).1 = z := ⟨_, rfl⟩
  obtain ⟨p2, hp2⟩ : ∃ z, (hubK (h, ep) e).2 = z := ⟨_, rfl⟩
  have hcnt : ∀ l, cntR ⟨l, h, ep, k⟩ e = ⟨l, p1, p2, k + 1⟩ := fun l => by unfold cntR; rw [← hp1, ← hp2]
  rw [hp1, hp2] at cn
  clear hk hep hP hp1 hp2 hs hv
  have H := hidp (Mm.M.nil w)
  obtain ⟨n, hn⟩ : ∃ n, cs.length = n := ⟨_, rfl⟩
  rw [hn] at hv0
  subst hv0
  by_cases hz : auE cs e = 0
  · rw [hz] at ca
    by_cases hk : k = 4096
    · have hkk : (k == 4096) = true := by rw [hk]; rfl
      have hE : spE ⟨cs, h, ep, k⟩ e = 8 := (if_pos hz).trans (if_pos hk)
      have HE := hidp hE; have HR := hidp (spR_no (by rw [hE]; decide) : spR ⟨cs, h, ep, k⟩ e = _)
      clear hz hk hE hn hcnt he
      go_enter Tryz.func40, Tryz.ntmps40
      go_wp2_with (first | (refine Mm.box 35 H rfl (.tmp 0) rfl [.slice a0 n c0, .int .i64 h, .int .i64 ep, .int .i64 k] rfl ?_; clear H; intro b2 _ H nw; have hb := nw.below; clear hb nw) | (refine Mm.box 25 H rfl (.tmp 1) rfl e.row rfl ?_; clear H; intro b3 _ H nw; have hb := nw.below; clear hb nw) | (refine Mm.new rtR H (some 4) rfl rfl rfl ?_; clear H; intro b4 _ H nw; have hb := nw.below; clear hb nw) | (refine Mm.ld2 naSl H rfl (.tmp 9) 0 (.slice a0 n c0) rfl rfl rfl ?_) | (refine Mm.get1 rtE H rfl (.tmp 3) rfl rfl rfl ?_) | (go_at_call 9; refine (ca.out _ (HV.out.to H.out.below) (HP.out.below H.out.below (Nat.le_refl _))).mono ?_; rintro e _ ⟨rfl, hb⟩; replace H := hidp (H.out.call hb); clear ca; clear hb) | (refine Mm.ld2 naInt H rfl (.tmp 17) 3 (.int .i64 k) rfl rfl rfl ?_) | (refine Mm.get2 rtR H rfl (.tmp 2) rfl rfl rfl ?_) | (refine Mm.put0 rtR H rfl (.tmp 4) (.tmp 20) [.slice a0 n c0, .int .i64 h, .int .i64 ep, .int .i64 k] rfl rfl rfl rfl (by simp [Value.oneCell']) rfl ?_; intro _ H2 st; clear st H; have H := H2; clear H2))
      refine bodyPost_ret (Mm.ret_rowv rtR Tryz.results40 _ b4 _ _ rfl rfl H.out.at0 rfl) rfl ⟨_, by rw [HE.out, HR.out]; rfl, by rw [HR.out]; exact (HV.out.to H.out.below), H.out.below⟩
    · have hkk : (k == 4096) = false := by simpa using hk
      have hE0 : spE ⟨cs, h, ep, k⟩ e = if stB e.kind = true then setE cs e else 0 := (if_pos hz).trans (if_neg hk)
      cases hst : stB e.kind with
      | false =>
        have hE : spE ⟨cs, h, ep, k⟩ e = 0 := by rw [hE0, hst]; rfl
        have HE := hidp hE
        have HR := hidp (show spR ⟨cs, h, ep, k⟩ e = ⟨cs, p1, p2, k + 1⟩ from by unfold spR spC; rw [if_pos hE, hst, ← hcnt]; rfl)
        rw [hst] at cs1
        clear hz hk hE hE0 hn hcnt he hst
        go_enter Tryz.func40, Tryz.ntmps40
        go_wp2_with (first | (refine Mm.box 35 H rfl (.tmp 0) rfl [.slice a0 n c0, .int .i64 h, .int .i64 ep, .int .i64 k] rfl ?_; clear H; intro b2 _ H nw; have hb := nw.below; clear hb nw) | (refine Mm.box 25 H rfl (.tmp 1) rfl e.row rfl ?_; clear H; intro b3 _ H nw; have hb := nw.below; clear hb nw) | (refine Mm.new rtR H (some 4) rfl rfl rfl ?_; clear H; intro b4 _ H nw; have hb := nw.below; clear hb nw) | (refine Mm.ld2 naSl H rfl (.tmp 9) 0 (.slice a0 n c0) rfl rfl rfl ?_) | (refine Mm.get1 rtE H rfl (.tmp 3) rfl rfl rfl ?_) | (go_at_call 9; refine (ca.out _ (HV.out.to H.out.below) (HP.out.below H.out.below (Nat.le_refl _))).mono ?_; rintro e _ ⟨rfl, hb⟩; replace H := hidp (H.out.call hb); clear ca; clear hb) | (refine Mm.ld2 naInt H rfl (.tmp 17) 3 (.int .i64 k) rfl rfl rfl ?_) | (refine Mm.ld1 naK H rfl (.tmp 21) 2 (.int .u8 (e.kind : Int)) rfl rfl rfl ?_) | (go_at_call 75; refine (cs1.out _).mono ?_; rintro e _ ⟨rfl, hb⟩; replace H := hidp (H.out.call hb); clear cs1; clear hb) | (refine Mm.get2 rtR H rfl (.tmp 2) rfl rfl rfl ?_) | (refine Mm.get1 rtE H rfl (.tmp 3) rfl rfl rfl ?_) | (go_at_call 76; refine (cn.out _ _ _ _ (HP.out.below H.out.below (Nat.le_refl _))).mono ?_; rintro e _ ⟨rfl, hb⟩; replace H := hidp (H.out.call hb); clear cn; clear hb) | (refine Mm.put0 rtR H rfl (.tmp 4) (.tmp 39) [.slice a0 n c0, .int .i64 p1, .int .i64 p2, .int .i64 (k + 1)] rfl rfl rfl rfl (by simp [Value.oneCell']) rfl ?_; intro _ H2 st; clear st H; have H := H2; clear H2))
        refine bodyPost_ret (Mm.ret_rowv rtR Tryz.results40 _ b4 _ _ rfl rfl H.out.at0 rfl) rfl ⟨_, by rw [HE.out, HR.out]; rfl, by rw [HR.out]; exact (HV.out.to H.out.below), H.out.below⟩
      | true =>
        rw [if_pos hst] at hE0
        rw [hst] at cs1
        by_cases hx : setE cs e = 0
        · have hE : spE ⟨cs, h, ep, k⟩ e = 0 := by rw [hE0, hx]
          have HE := hidp hE
          have HR := hidp (show spR ⟨cs, h, ep, k⟩ e = ⟨setV cs e, p1, p2, k + 1⟩ from by unfold spR spC; rw [if_pos hE, if_pos hst, ← hcnt])
          rw [hx] at cz
          clear hz hk hE hE0 hn hcnt he hst hx
          go_enter Tryz.func40, Tryz.ntmps40
          go_wp2_with (first | (refine Mm.box 35 H rfl (.tmp 0) rfl [.slice a0 n c0, .int .i64 h, .int .i64 ep, .int .i64 k] rfl ?_; clear H; intro b2 _ H nw; have hb := nw.below; clear hb nw) | (refine Mm.box 25 H rfl (.tmp 1) rfl e.row rfl ?_; clear H; intro b3 _ H nw; have hb := nw.below; clear hb nw) | (refine Mm.new rtR H (some 4) rfl rfl rfl ?_; clear H; intro b4 _ H nw; have hb := nw.below; clear hb nw) | (refine Mm.ld2 naSl H rfl (.tmp 9) 0 (.slice a0 n c0) rfl rfl rfl ?_) | (refine Mm.get1 rtE H rfl (.tmp 3) rfl rfl rfl ?_) | (go_at_call 9; refine (ca.out _ (HV.out.to H.out.below) (HP.out.below H.out.below (Nat.le_refl _))).mono ?_; rintro e _ ⟨rfl, hb⟩; replace H := hidp (H.out.call hb); clear ca; clear hb) | (refine Mm.ld2 naInt H rfl (.tmp 17) 3 (.int .i64 k) rfl rfl rfl ?_) | (refine Mm.ld1 naK H rfl (.tmp 21) 2 (.int .u8 (e.kind : Int)) rfl rfl rfl ?_) | (go_at_call 75; refine (cs1.out _).mono ?_; rintro e _ ⟨rfl, hb⟩; replace H := hidp (H.out.call hb); clear cs1; clear hb) | (refine Mm.ld2 naSl H rfl (.tmp 25) 0 (.slice a0 n c0) rfl rfl rfl ?_) | (refine Mm.get1 rtE H rfl (.tmp 3) rfl rfl rfl ?_) | (go_at_call 24; refine (cz.out _ (HV.out.to H.out.below) (HP.out.1.below H.out.below (Nat.le_refl _))).mono ?_; rintro x _ ⟨v1, rfl, hcs, hb⟩; obtain ⟨a1, c1, rfl⟩ := hcs.form; replace H := hidp (H.out.call hb); have HS := hidp hcs; clear hcs hb cz) | (refine Mm.putF2 H rfl 22 (.tmp 36) (.tmp 35) 0 (.slice a1 (setV cs e).length c1) rfl rfl rfl (by kernel_rfl) rfl (of_decide_eq_true rfl) ?_; intro _ H2 st; replace HS := hidp (HS.out.stp st H.out.at2 (by simp)); clear st H; have H : Hid (Mm.M w.heap.size w _ ([⟨b4, 35, zR⟩, ⟨b3, 25, e.row⟩, ⟨b2, 35, [.slice a1 (setV cs e).length c1, .int .i64 h, .int .i64 ep, .int .i64 k]⟩])) := H2; clear H2) | (refine Mm.get2 rtR H rfl (.tmp 2) rfl rfl rfl ?_) | (refine Mm.get1 rtE H rfl (.tmp 3) rfl rfl rfl ?_) | (go_at_call 76; refine (cn.out _ _ _ _ (HP.out.below H.out.below (Nat.le_refl _))).mono ?_; rintro e _ ⟨rfl, hb⟩; replace H := hidp (H.out.call hb); clear cn; replace HS := hidp (HS.out.to hb); clear hb) | (refine Mm.put0 rtR H rfl (.tmp 4) (.tmp 39) [.slice a1 (setV cs e).length c1, .int .i64 p1, .int .i64 p2, .int .i64 (k + 1)] rfl rfl rfl rfl (by simp [Value.oneCell']) rfl ?_; intro _ H2 st; replace HS := hidp (HS.out.stp st H.out.at0 (by simp [zR])); clear st H; have H := H2; clear H2))
          refine bodyPost_ret (Mm.ret_rowv rtR Tryz.results40 _ b4 _ _ rfl rfl H.out.at0 rfl) rfl ⟨_, by rw [HE.out, HR.out]; rfl, by rw [HR.out]; exact HS.out, H.out.below⟩
        · have HE := hidp hE0
          have HR := hidp (spR_no (by rw [hE0]; exact hx) : spR ⟨cs, h, ep, k⟩ e = _)
          obtain ⟨Z, hZ⟩ : ∃ Z, setE cs e = Z := ⟨_, rfl⟩
          rw [hZ] at cz HE hx
          have z1 : (Z != 0) = true := by simpa using hx
          have z2 : (Z == 0) = false := by simpa using hx
          clear hz hk hE0 hn hcnt he hst hx hZ
          go_enter Tryz.func40, Tryz.ntmps40
          go_wp2_with (first | (refine Mm.box 35 H rfl (.tmp 0) rfl [.slice a0 n c0, .int .i64 h, .int .i64 ep, .int .i64 k] rfl ?_; clear H; intro b2 _ H nw; have hb := nw.below; clear hb nw) | (refine Mm.box 25 H rfl (.tmp 1) rfl e.row rfl ?_; clear H; intro b3 _ H nw; have hb := nw.below; clear hb nw) | (refine Mm.new rtR H (some 4) rfl rfl rfl ?_; clear H; intro b4 _ H nw; have hb := nw.below; clear hb nw) | (refine Mm.ld2 naSl H rfl (.tmp 9) 0 (.slice a0 n c0) rfl rfl rfl ?_) | (refine Mm.get1 rtE H rfl (.tmp 3) rfl rfl rfl ?_) | (go_at_call 9; refine (ca.out _ (HV.out.to H.out.below) (HP.out.below H.out.below (Nat.le_refl _))).mono ?_; rintro e _ ⟨rfl, hb⟩; replace H := hidp (H.out.call hb); clear ca; clear hb) | (refine Mm.ld2 naInt H rfl (.tmp 17) 3 (.int .i64 k) rfl rfl rfl ?_) | (refine Mm.ld1 naK H rfl (.tmp 21) 2 (.int .u8 (e.kind : Int)) rfl rfl rfl ?_) | (go_at_call 75; refine (cs1.out _).mono ?_; rintro e _ ⟨rfl, hb⟩; replace H := hidp (H.out.call hb); clear cs1; clear hb) | (refine Mm.ld2 naSl H rfl (.tmp 25) 0 (.slice a0 n c0) rfl rfl rfl ?_) | (refine Mm.get1 rtE H rfl (.tmp 3) rfl rfl rfl ?_) | (go_at_call 24; refine (cz.out _ (HV.out.to H.out.below) (HP.out.1.below H.out.below (Nat.le_refl _))).mono ?_; rintro x _ ⟨v1, rfl, hcs, hb⟩; obtain ⟨a1, c1, rfl⟩ := hcs.form; replace H := hidp (H.out.call hb); have HS := hidp hcs; clear hcs hb cz) | (refine Mm.get2 rtR H rfl (.tmp 2) rfl rfl rfl ?_) | (refine Mm.put0 rtR H rfl (.tmp 4) (.tmp 33) [.slice a0 n c0, .int .i64 h, .int .i64 ep, .int .i64 k] rfl rfl rfl rfl (by simp [Value.oneCell']) rfl ?_; intro _ H2 st; clear st H; have H := H2; clear H2))
          refine bodyPost_ret (Mm.ret_rowv rtR Tryz.results40 _ b4 _ _ rfl rfl H.out.at0 rfl) rfl ⟨_, by rw [HE.out, HR.out]; rfl, by rw [HR.out]; exact (HV.out.to H.out.below), H.out.below⟩
  · have hE : spE ⟨cs, h, ep, k⟩ e = auE cs e := if_neg hz
    have HR := hidp (spR_no (by rw [hE]; exact hz) : spR ⟨cs, h, ep, k⟩ e = _)
    have HE := hidp hE
    obtain ⟨Z, hZ⟩ : ∃ Z, auE cs e = Z := ⟨_, rfl⟩
    rw [hZ] at ca HE hz
    have z1 : (Z != 0) = true := by simpa using hz
    have z2 : (Z == 0) = false := by simpa using hz
    clear hz hE hn hcnt he hZ
    go_enter Tryz.func40, Tryz.ntmps40
    go_wp2_with (first | (refine Mm.box 35 H rfl (.tmp 0) rfl [.slice a0 n c0, .int .i64 h, .int .i64 ep, .int .i64 k] rfl ?_; clear H; intro b2 _ H nw; have hb := nw.below; clear hb nw) | (refine Mm.box 25 H rfl (.tmp 1) rfl e.row rfl ?_; clear H; intro b3 _ H nw; have hb := nw.below; clear hb nw) | (refine Mm.new rtR H (some 4) rfl rfl rfl ?_; clear H; intro b4 _ H nw; have hb := nw.below; clear hb nw) | (refine Mm.ld2 naSl H rfl (.tmp 9) 0 (.slice a0 n c0) rfl rfl rfl ?_) | (refine Mm.get1 rtE H rfl (.tmp 3) rfl rfl rfl ?_) | (go_at_call 9; refine (ca.out _ (HV.out.to H.out.below) (HP.out.below H.out.below (Nat.le_refl _))).mono ?_; rintro e _ ⟨rfl, hb⟩; replace H := hidp (H.out.call hb); clear ca; clear hb) | (refine Mm.get2 rtR H rfl (.tmp 2) rfl rfl rfl ?_) | (refine Mm.put0 rtR H rfl (.tmp 4) (.tmp 15) [.slice a0 n c0, .int .i64 h, .int .i64 ep, .int .i64 k] rfl rfl rfl rfl (by simp [Value.oneCell']) rfl ?_; intro _ H2 st; clear st H; have H := H2; clear H2))
    refine bodyPost_ret (Mm.ret_rowv rtR Tryz.results40 _ b4 _ _ rfl rfl H.out.at0 rfl) rfl ⟨_, by rw [HE.out, HR.out]; rfl, by rw [HR.out]; exact (HV.out.to H.out.below), H.out.below⟩
end Go.Proofs.YtkcgmimcopoknaaGreatDoor
