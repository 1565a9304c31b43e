/-
  TopAbove: the walk.
-/
import Derived.Test.YtlgmgllilmlffaaDoorPwU
import Derived.Test.YtlgmgllilmlffaaDoorPwQ
import Derived.Test.YtlgmgllilmlffaaDoorMbC
import Derived.Test.YtlgmgllilmlffaaDoorOcN
import Derived.Test.YtlgmgllilmlffaaDoorOctP
import Derived.Test.YtlgmgllilmlffaaDoorMm
namespace Go.Proofs.YtlgmgllilmlffaaDoor
set_option maxRecDepth 100000
set_option linter.unusedVariables false
set_option linter.unusedSimpArgs false
open Go.RowKit Rw Go.Shelf
attribute [local go_sem] Oper.semAt_some

theorem naI : Mm.NA Tryd.prog 3 := ⟨_, Tryd.underlying3, rfl⟩
theorem naU : Mm.NA Tryd.prog 38 := ⟨_, Tryd.underlying38, rfl⟩
def mvZ : List Value := [.string (⟨#[]⟩ : ByteArray), .string (⟨#[]⟩ : ByteArray), .string (⟨#[]⟩ : ByteArray), .string (⟨#[]⟩ : ByteArray), .bool false, .bool false, .bool false, .bool false, .bool false]
theorem mvT : Rt.RT Tryd.prog 48 9 mvZ := ⟨rfl, .inl ⟨_, Tryd.underlying48⟩, by kernel_rfl⟩
theorem UsAt.stp {w W : World} {v : Value} {us : List (ByteArray × Int)} {b t : Nat} {xs : List Value} (h : UsAt w v us) (st : Rt.Stp b w W) (ha : Arr w b t xs) (hx : ∀ x ∈ xs, ∀ s, x ≠ .string s) : UsAt W v us := by
  refine ⟨⟨h.rs.1, ?_⟩, h.len, h.sz⟩
  rcases h.rs.2 with h0 | ⟨B, o, c, e, hc, hB, hr⟩
  · exact .inl h0
  · by_cases hn : 0 < us.length
    · refine .inr ⟨B, o, c, e, hc, by rw [st.size]; exact hB, fun j u hj => ?_⟩
      have hne : B ≠ b := by
        rintro rfl
        have h0 := hr 0 (.string us[0].1) (by
          obtain ⟨p, r, rfl⟩ : ∃ p r, us = p :: r := by
            cases us with
            | nil => simp at hn
            | cons p r => exact ⟨p, r, rfl⟩
          rfl)
        have hc0 : w.cell? ⟨B, o + 0, none⟩ = xs[o + 0]? := by simp [World.cell?, show w.heap[B]? = _ from ha]
        rw [hc0] at h0
        exact hx _ (List.mem_of_getElem? h0) _ rfl
      have hcell : W.cell? ⟨B, o + j, none⟩ = w.cell? ⟨B, o + j, none⟩ := World.cell?_of_block (w := w) (st.other B hne)
      rw [hcell]; exact hr j u hj
    · have : us = [] := List.eq_nil_of_length_eq_zero (by omega)
      subst this
      refine .inr ⟨B, o, c, e, hc, by rw [st.size]; exact hB, fun j u hj => by simp [uRs] at hj⟩
theorem UsAt.stpB {w W : World} {us : List (ByteArray × Int)} {B o n c b : Nat} (h : UsAt w (.slice (some ⟨B, o, none⟩) n c) us) (st : Rt.Stp b w W) (hne : B ≠ b) : UsAt W (.slice (some ⟨B, o, none⟩) n c) us := by
  refine ⟨⟨h.rs.1, ?_⟩, h.len, h.sz⟩
  rcases h.rs.2 with ⟨h0, _⟩ | ⟨B', o', c', e, hc, hB, hr⟩
  · cases h0
  · simp only [Value.slice.injEq, Option.some.injEq, Addr.mk.injEq] at e
    obtain ⟨⟨rfl, rfl, -⟩, rfl, rfl⟩ := e
    refine .inr ⟨B, o, c, rfl, hc, by rw [st.size]; exact hB, fun j u hj => ?_⟩
    have hcell : W.cell? ⟨B, o + j, none⟩ = w.cell? ⟨B, o + j, none⟩ := World.cell?_of_block (w := w) (st.other B hne)
    rw [hcell]; exact hr j u hj
theorem UsAt.ltB {w : World} {v : Value} {us : List (ByteArray × Int)} (h : UsAt w v us) : ∀ B o n c, v = Value.slice (some ⟨B, o, none⟩) n c → B < w.heap.size := by
  intro B o n c hv
  rcases h.rs.2 with ⟨h0, _⟩ | ⟨B', o', c', e, hc, hB, hr⟩
  · rw [h0] at hv; cases hv
  · rw [e] at hv
    simp only [Value.slice.injEq, Option.some.injEq, Addr.mk.injEq] at hv
    obtain ⟨⟨rfl, -, -⟩, -, -⟩ := hv
    exact hB
theorem UsAt.stpN {w W : World} {v : Value} {us : List (ByteArray × Int)} {b : Nat} (h : UsAt w v us) (st : Rt.Stp b w W) (hne : ∀ B o n c, v = Value.slice (some ⟨B, o, none⟩) n c → B ≠ b) : UsAt W v us := by
  refine ⟨⟨h.rs.1, ?_⟩, h.len, h.sz⟩
  rcases h.rs.2 with h0 | ⟨B, o, c, e, hc, hB, hr⟩
  · exact .inl h0
  · refine .inr ⟨B, o, c, e, hc, by rw [st.size]; exact hB, fun j u hj => ?_⟩
    have hcell : W.cell? ⟨B, o + j, none⟩ = w.cell? ⟨B, o + j, none⟩ := World.cell?_of_block (w := w) (st.other B (hne _ _ _ _ e))
    rw [hcell]; exact hr j u hj
theorem lv_nostr2 {l : Lv} {v : Value} (h : ∃ a c, v = .slice a l.us.length c) : ∀ x ∈ [.int .i64 l.a, .int .i64 l.s, .int .i64 l.i, .int .i64 l.k, .int .i64 l.b, .int .i64 l.r, v], ∀ s, x ≠ Value.string s := by
  obtain ⟨a, c, rfl⟩ := h
  intro x hx s
  simp at hx
  rcases hx with rfl | rfl | rfl | rfl | rfl | rfl | rfl <;> simp
/-- Nobody is sent away, or banned, by somebody who is not above them. -/
theorem al_ab (t : ByteArray) (ht : t = (⟨#[98, 97, 110]⟩ : ByteArray) ∨ t = (⟨#[108, 101, 97, 118, 101]⟩ : ByteArray)) (ki bn : Bool) : alE (⟨#[112, 117, 98, 108, 105, 99]⟩ : ByteArray) (⟨#[106, 111, 105, 110]⟩ : ByteArray) (⟨#[106, 111, 105, 110]⟩ : ByteArray) t false false ki bn false = 12 := by
  rcases ht with rfl | rfl <;> cases ki <;> cases bn <;> (unfold alE ckE mayB; simp [toList_lit, anyW, isB, ruleB, inB, byB, entB, remB, ckE])

set_option maxHeartbeats 32000000 in
theorem walk_topAbove (w : World) (f : ByteArray) (hf : f.size ≤ 140737488351232) (vb : Value) (bs : List ByteArray) (hvb : StrsAt w vb bs) (hlb : bs.length ≤ 140737488351232) (hsb : ∀ s ∈ bs, s.size ≤ 140737488351232) (vu : Value) (us : List ByteArray) (hvu : StrsAt w vu us) (hlu : us.length ≤ 140737488351232) (hsu : ∀ s ∈ us, s.size ≤ 140737488351232)
    (a : ByteArray) (ha : a.size ≤ 140737488351232) (b : ByteArray) (hbz : b.size ≤ 140737488351232) (hP : PT w) :
    Calls Tryd.prog 4 #[.string f, vb, vu, .string a, .string b] w fun e w' => e = .returned (.bool true) ∧ Below w.heap.size w w' := by
  have HP := hidp hP; have HSB := hidp hsb
  clear hP hsb hsu ha hbz
  obtain ⟨ab, cb, rfl, hcb⟩ := hvb
  obtain ⟨au, cu, rfl, hcu⟩ := hvu
  have HCB := hidp hcb; have HCU := hidp hcu
  clear hcb hcu
  obtain ⟨nb, hnb⟩ : ∃ n, bs.length = n := ⟨_, rfl⟩
  obtain ⟨nu, hnu⟩ : ∃ n, us.length = n := ⟨_, rfl⟩
  have HNB := hidp hnb; have HNU := hidp hnu
  rw [hnb] at hlb ⊢
  rw [hnu] at hlu ⊢
  clear hnb hnu
  have CB := hidp (fun W => begins_any W)
  have cp := hidp (fun W h => lvParse_any W f hf h)
  have H := hidp (Mm.M.nil w)
  cases hp : psL f with
  | none =>
    rw [show psX f = 6 from by unfold psX; rw [hp]; rfl] at cp
    obtain ⟨L1, hL1⟩ : ∃ z, psV f = z := ⟨_, rfl⟩
    rw [hL1] at cp
    clear hp hL1
    by_cases q1 : 4096 < f.size
    · have d1 : decide ((f.size : Int) > 4096) = true := by simp; omega
      have n1 : (4096 : Int) < (f.size : Int) := by omega
      clear q1
      go_enter Tryd.func4, Tryd.ntmps4
      go_wp2_with (first | (refine Rt.wpL_skip _ _ rfl rfl ?_) | (go_at_call 11; refine (CB.out _).mono ?_; rintro e _ ⟨rfl, hb⟩; replace H := hidp (H.out.call hb); clear hb) | (go_at_call 12; refine (cp.out _ (HP.out.below H.out.below (Nat.le_refl _))).mono ?_; rintro e _ ⟨v1, rfl, hu, hb⟩; obtain ⟨a1, c1, rfl⟩ := hu.form; replace H := hidp (H.out.call hb); have HUr := hidp hu; clear hu hb cp) | (refine Mm.new tyL H (some 11) rfl rfl rfl ?_; clear H; intro b11 _ H nw; have hb := nw.below; replace HUr := hidp (HUr.out.to hb); clear hb nw) | (refine Mm.put0 tyL H rfl (.tmp 11) (.tmp 29) [.int .i64 L1.a, .int .i64 L1.s, .int .i64 L1.i, .int .i64 L1.k, .int .i64 L1.b, .int .i64 L1.r, .slice a1 L1.us.length c1] rfl rfl rfl rfl (by simp [Value.oneCell']) rfl ?_; intro _ H2 st; replace HUr := hidp (HUr.out.stp st H.out.at0 (by simp [zL])); clear st H; have H := H2; clear H2))
      go_ret
      exact ⟨rfl, H.out.below⟩
    · have d1 : decide ((f.size : Int) > 4096) = false := by simp; omega
      have n1 : ¬ (4096 : Int) < (f.size : Int) := by omega
      clear q1
      go_enter Tryd.func4, Tryd.ntmps4
      go_wp2_with (first | (refine Rt.wpL_skip _ _ rfl rfl ?_) | (go_at_call 11; refine (CB.out _).mono ?_; rintro e _ ⟨rfl, hb⟩; replace H := hidp (H.out.call hb); clear hb) | (go_at_call 12; refine (cp.out _ (HP.out.below H.out.below (Nat.le_refl _))).mono ?_; rintro e _ ⟨v1, rfl, hu, hb⟩; obtain ⟨a1, c1, rfl⟩ := hu.form; replace H := hidp (H.out.call hb); have HUr := hidp hu; clear hu hb cp) | (refine Mm.new tyL H (some 11) rfl rfl rfl ?_; clear H; intro b11 _ H nw; have hb := nw.below; replace HUr := hidp (HUr.out.to hb); clear hb nw) | (refine Mm.put0 tyL H rfl (.tmp 11) (.tmp 29) [.int .i64 L1.a, .int .i64 L1.s, .int .i64 L1.i, .int .i64 L1.k, .int .i64 L1.b, .int .i64 L1.r, .slice a1 L1.us.length c1] rfl rfl rfl rfl (by simp [Value.oneCell']) rfl ?_; intro _ H2 st; replace HUr := hidp (HUr.out.stp st H.out.at0 (by simp [zL])); clear st H; have H := H2; clear H2))
      go_ret
      exact ⟨rfl, H.out.below⟩
  | some l =>
    rw [show psX f = 0 from by unfold psX; rw [hp]; rfl, show psV f = l from by unfold psV; rw [hp]; rfl] at cp
    clear hp
    by_cases q1 : 4096 < f.size
    · have d1 : decide ((f.size : Int) > 4096) = true := by simp; omega
      have n1 : (4096 : Int) < (f.size : Int) := by omega
      clear q1
      go_enter Tryd.func4, Tryd.ntmps4
      go_wp2_with (first | (refine Rt.wpL_skip _ _ rfl rfl ?_) | (go_at_call 11; refine (CB.out _).mono ?_; rintro e _ ⟨rfl, hb⟩; replace H := hidp (H.out.call hb); clear hb) | (go_at_call 12; refine (cp.out _ (HP.out.below H.out.below (Nat.le_refl _))).mono ?_; rintro e _ ⟨v1, rfl, hu, hb⟩; obtain ⟨a1, c1, rfl⟩ := hu.form; replace H := hidp (H.out.call hb); have HUr := hidp hu; clear hu hb cp) | (refine Mm.new tyL H (some 11) rfl rfl rfl ?_; clear H; intro b11 _ H nw; have hb := nw.below; replace HUr := hidp (HUr.out.to hb); clear hb nw) | (refine Mm.put0 tyL H rfl (.tmp 11) (.tmp 29) [.int .i64 l.a, .int .i64 l.s, .int .i64 l.i, .int .i64 l.k, .int .i64 l.b, .int .i64 l.r, .slice a1 l.us.length c1] rfl rfl rfl rfl (by simp [Value.oneCell']) rfl ?_; intro _ H2 st; replace HUr := hidp (HUr.out.stp st H.out.at0 (by simp [zL])); clear st H; have H := H2; clear H2))
      go_ret
      exact ⟨rfl, H.out.below⟩
    · have d1 : decide ((f.size : Int) > 4096) = false := by simp; omega
      have n1 : ¬ (4096 : Int) < (f.size : Int) := by omega
      clear q1
      by_cases q2 : 20 < nb
      · have d2 : decide ((nb : Int) > 20) = true := by simp; omega
        have n2 : (20 : Int) < (nb : Int) := by omega
        clear q2
        go_enter Tryd.func4, Tryd.ntmps4
        go_wp2_with (first | (refine Rt.wpL_skip _ _ rfl rfl ?_) | (go_at_call 11; refine (CB.out _).mono ?_; rintro e _ ⟨rfl, hb⟩; replace H := hidp (H.out.call hb); clear hb) | (go_at_call 12; refine (cp.out _ (HP.out.below H.out.below (Nat.le_refl _))).mono ?_; rintro e _ ⟨v1, rfl, hu, hb⟩; obtain ⟨a1, c1, rfl⟩ := hu.form; replace H := hidp (H.out.call hb); have HUr := hidp hu; clear hu hb cp) | (refine Mm.new tyL H (some 11) rfl rfl rfl ?_; clear H; intro b11 _ H nw; have hb := nw.below; replace HUr := hidp (HUr.out.to hb); clear hb nw) | (refine Mm.put0 tyL H rfl (.tmp 11) (.tmp 29) [.int .i64 l.a, .int .i64 l.s, .int .i64 l.i, .int .i64 l.k, .int .i64 l.b, .int .i64 l.r, .slice a1 l.us.length c1] rfl rfl rfl rfl (by simp [Value.oneCell']) rfl ?_; intro _ H2 st; replace HUr := hidp (HUr.out.stp st H.out.at0 (by simp [zL])); clear st H; have H := H2; clear H2))
        go_ret
        exact ⟨rfl, H.out.below⟩
      · have d2 : decide ((nb : Int) > 20) = false := by simp; omega
        have n2 : ¬ (20 : Int) < (nb : Int) := by omega
        clear q2
        obtain ⟨nl, hn1⟩ : ∃ n, l.us.length = n := ⟨_, rfl⟩
        have HNL := hidp hn1
        clear hn1
        go_enter Tryd.func4, Tryd.ntmps4
        go_wp2_with (first | (refine Rt.wpL_skip _ _ rfl rfl ?_) | (go_at_call 11; refine (CB.out _).mono ?_; rintro e _ ⟨rfl, hb⟩; replace H := hidp (H.out.call hb); clear hb) | (go_at_call 12; refine (cp.out _ (HP.out.below H.out.below (Nat.le_refl _))).mono ?_; rintro e _ ⟨v1, rfl, hu, hb⟩; obtain ⟨a1, c1, rfl⟩ := hu.form; rw [HNL.out] at hu ⊢; replace H := hidp (H.out.call hb); have HUr := hidp hu; clear hu hb cp) | (refine Mm.new tyL H (some 11) rfl rfl rfl ?_; clear H; intro b11 _ H nw; have hb := nw.below; replace HUr := hidp (HUr.out.to hb); clear hb nw) | (refine Mm.put0 tyL H rfl (.tmp 11) (.tmp 29) [.int .i64 l.a, .int .i64 l.s, .int .i64 l.i, .int .i64 l.k, .int .i64 l.b, .int .i64 l.r, .slice a1 nl c1] rfl rfl rfl rfl (by simp [Value.oneCell']) rfl ?_; intro _ H2 st; replace HUr := hidp (HUr.out.stp st H.out.at0 (by simp [zL])); clear st H; have H := H2; clear H2) | (refine Mm.ld0 naI H rfl (.tmp 55) 0 (.int .i64 l.a) rfl rfl rfl ?_) | (refine Mm.ld0 naU H rfl (.tmp 57) 6 _ rfl rfl rfl ?_))
        have hnl : nl ≤ 140737488351232 := by have := HUr.out.len; rw [HNL.out] at this; exact this
        go_loopw [13, 60] (fun t13 t60 wr => ∃ i : Nat, t13 = .int .i64 (mostU l.a (l.us.take i)) ∧ t60 = .int .i64 (i : Int) ∧ i ≤ nl ∧ Mm.M w.heap.size w wr [⟨b11, 40, [.int .i64 l.a, .int .i64 l.s, .int .i64 l.i, .int .i64 l.k, .int .i64 l.b, .int .i64 l.r, .slice a1 nl c1]⟩] ∧ UsAt wr (.slice a1 nl c1) l.us) (fun _ t60 _ => nl - (intOf t60).toNat)
        case atStart => exact ⟨0, rfl, rfl, by omega, H.out, HUr.out⟩
        case round =>
          clear H HUr
          obtain ⟨i, rfl, rfl, hi, hM, hu⟩ := hrel
          have H := hidp hM; have HUr := hidp hu
          clear hM hu
          by_cases hlt : i < nl
          · have e1 : decide ((i : Int) < (nl : Int)) = true := by simp; omega
            have hgl : i < l.us.length := by rw [HNL.out]; exact hlt
            have hst := mostU_take l.us l.a i hgl
            obtain ⟨p, hpe0⟩ : ∃ p, l.us[i] = p := ⟨_, rfl⟩
            obtain ⟨BK, off, c, e2, hc, hBK0, hR0⟩ := HUr.out.get (by rw [HNL.out]; omega)
            rw [HNL.out] at e2
            simp only [Value.slice.injEq] at e2
            obtain ⟨rfl, -, rfl⟩ := e2
            have HRI := hidp (show wr.rangeAt BK (off + 2 * i) (uR p) from by rw [← hpe0]; exact hR0 i hgl)
            rw [hpe0] at hst
            obtain ⟨mi, hmi⟩ : ∃ z, mostU l.a (l.us.take i) = z := ⟨_, rfl⟩
            rw [hmi] at hst ⊢
            have hmx : ∀ W ts, (Builtin.max_ ts 3 #[.int .i64 mi, .int .i64 p.2]).run Tryd.prog W = .ok (.int .i64 (max mi p.2)) W := fun W ts => by
              rw [run_max_int2]; congr 2; by_cases h : p.2 > mi <;> simp [h] <;> omega
            have HST := hidp hst; have HBK := hidp hBK0
            clear hst hmi hR0 hBK0 hpe0 hc
            go_wp2_with (first | (refine wpL_idxR tyU rfl (.tmp 58) (.tmp 60) rfl BK off nl _ i rfl rfl hlt ?_) | (refine wpL_atR tyU rfl (.tmp 62) rfl BK (off + 2 * i) (uR p) rfl rfl HRI.out ?_) | (refine Mm.new tyP H (some 15) rfl rfl rfl ?_; clear H; intro b15 _ H nw; have hb := nw.below; have hbn := hidp (show BK < b15 from Nat.lt_of_lt_of_le HBK.out nw.le); replace HUr := hidp (HUr.out.to hb); clear hb nw) | (refine Mm.put0 tyP H rfl (.tmp 15) (.tmp 63) (uR p) rfl rfl rfl rfl (uR_one p) rfl ?_; intro _ H2 st; replace HUr := hidp (HUr.out.stpB st (by have := hbn.out; omega)); clear st H; have H : Hid (Mm.M w.heap.size w _ (⟨b15, 44, [.string p.1, .int .i64 p.2]⟩ :: _)) := H2; clear H2) | (refine Mm.ld0 naI H rfl (.tmp 65) 1 (.int .i64 p.2) rfl rfl rfl ?_))
            exact ⟨⟨i + 1, by rw [HST.out], by go_num, by omega, H.out.sub (List.sublist_cons_self _ _), HUr.out⟩, by simp [intOf]; omega⟩
          · have e1 : decide ((i : Int) < (nl : Int)) = false := by simp; omega
            have hin : i = nl := by omega
            have HMO := hidp (show mostU l.a (l.us.take i) = mostL l from by rw [hin, ← HNL.out, List.take_length]; rfl)
            rw [HMO.out]
            have HM0 := hidp (fun x => of_most l x)
            obtain ⟨m, hm⟩ : ∃ z, mostL l = z := ⟨_, rfl⟩
            rw [hm] at HM0 ⊢
            clear hm HMO
            go_wp2_with fail
            clear hi hin hlt e1
            go_loopw [71] (fun t71 wr => ∃ (i : Nat) (l2 : Lv) (v2 : Value), t71 = .int .i64 (i : Int) ∧ i ≤ nb ∧ (∀ x, ofL l2 x ≤ m) ∧ Mm.M w.heap.size w wr [⟨b11, 40, [.int .i64 l2.a, .int .i64 l2.s, .int .i64 l2.i, .int .i64 l2.k, .int .i64 l2.b, .int .i64 l2.r, v2]⟩] ∧ UsAt wr v2 l2.us) (fun t71 _ => nb - (intOf t71).toNat)
            case atStart => exact ⟨0, l, _, rfl, by omega, HM0.out, H.out, HUr.out⟩
            case round =>
              clear H HUr
              obtain ⟨i, l2, v2, rfl, hi, hm2, hM, hu⟩ := hrel
              have H := hidp hM; have HUr := hidp hu; have HM2 := hidp hm2
              clear hM hu hm2
              by_cases hlt : i < nb
              · have e1 : decide ((i : Int) < (nb : Int)) = true := by simp; omega
                obtain ⟨BS, oS, rfl, hci⟩ := HCB.out i (by rw [HNB.out]; exact hlt)
                obtain ⟨s, hs⟩ : ∃ s, bs[i]'(by rw [HNB.out]; exact hlt) = s := ⟨_, rfl⟩
                have hss : s.size ≤ 140737488351232 := by rw [← hs]; exact HSB.out _ (List.getElem_mem _)
                rw [hs] at hci
                have hcs := (H.out.below.cell (p := ⟨BS, oS + i, none⟩) (by have := World.block_lt_of_cell? w _ hci; simpa using this)).trans hci
                clear hci hs
                by_cases q3 : i < nu
                · have d3 : decide ((i : Int) ≥ (nu : Int)) = false := by simp; omega
                  have n3 : ¬ (nu : Int) ≤ (i : Int) := by omega
                  by_cases q4 : 4096 < s.size
                  · have d4 : decide ((s.size : Int) > 4096) = true := by simp; omega
                    have n4 : (4096 : Int) < (s.size : Int) := by omega
                    clear q4
                    have co1 := hidp (fun W h => of_any W l2 v2 a h); have co2 := hidp (fun W h => of_any W l2 v2 b h)
                    have ka := HM2.out a; have kb := HM2.out b
                    obtain ⟨oa, hoa⟩ : ∃ z, ofL l2 a = z := ⟨_, rfl⟩
                    obtain ⟨ob, hob⟩ : ∃ z, ofL l2 b = z := ⟨_, rfl⟩
                    rw [hoa] at co1 ka; rw [hob] at co2 kb
                    clear hoa hob
                    have co1b := co1; have co2b := co2; have co2c := co2
                    have d5 : decide (oa > m) = false := by simp; omega
                    have n5 : ¬ m < oa := by omega
                    have d6 : decide (ob > m) = false := by simp; omega
                    have n6 : ¬ m < ob := by omega
                    obtain ⟨DK, hDK⟩ : ∃ D, decide (l2.k ≤ oa) = D := ⟨_, rfl⟩
                    have hDK2 : decide (oa ≥ l2.k) = DK := hDK
                    obtain ⟨DB, hDB⟩ : ∃ D, decide (l2.b ≤ oa) = D := ⟨_, rfl⟩
                    have hDB2 : decide (oa ≥ l2.b) = DB := hDB
                    obtain ⟨AB, hAB⟩ : ∃ D, decide (ob < oa) = D := ⟨_, rfl⟩
                    have hAB2 : decide (oa > ob) = AB := hAB
                    have HHAB := hidp hAB
                    clear ka kb
                    have x1 := al_ab (⟨#[98, 97, 110]⟩ : ByteArray) (.inl rfl) DK DB; have x2 := al_ab (⟨#[108, 101, 97, 118, 101]⟩ : ByteArray) (.inr rfl) DK DB
                    have ca1 := hidp (fun W => allowed_any W (⟨#[112, 117, 98, 108, 105, 99]⟩ : ByteArray) (⟨#[106, 111, 105, 110]⟩ : ByteArray) (⟨#[106, 111, 105, 110]⟩ : ByteArray) (⟨#[98, 97, 110]⟩ : ByteArray) false false DK DB AB); have ca2 := hidp (fun W => allowed_any W (⟨#[112, 117, 98, 108, 105, 99]⟩ : ByteArray) (⟨#[106, 111, 105, 110]⟩ : ByteArray) (⟨#[106, 111, 105, 110]⟩ : ByteArray) (⟨#[108, 101, 97, 118, 101]⟩ : ByteArray) false false DK DB AB)
                    cases AB with
                    | false =>
                      rw [x1] at ca1; rw [x2] at ca2
                      clear x1 x2 HHAB
                      go_wp2_with (first | (refine Mm.get0 tyL H rfl (.tmp 11) rfl rfl rfl ?_) | (go_at_call 14; refine (co1.out _ HUr.out).mono ?_; rintro e _ ⟨rfl, hb⟩; replace H := hidp (H.out.call hb); clear co1; replace HUr := hidp (HUr.out.to hb); clear hb) | (go_at_call 14; refine (co2.out _ HUr.out).mono ?_; rintro e _ ⟨rfl, hb⟩; replace H := hidp (H.out.call hb); clear co2; replace HUr := hidp (HUr.out.to hb); clear hb) | (go_at_call 14; refine (co1b.out _ HUr.out).mono ?_; rintro e _ ⟨rfl, hb⟩; replace H := hidp (H.out.call hb); clear co1b; replace HUr := hidp (HUr.out.to hb); clear hb))
                      refine Mm.region H (.take 0 (.take 1 (.take 2 (.take 3 (.take 4 (.take 5 (.take 6 (.take 7 (.take 8 (.take 9 (.take 10 (.two 11 (.take 12 (.take 13 (.one 14 (.one 15 .done)))) 14 (.one 11 (.take 12 (.take 13 (.one 15 .done)))))))))))))))) (by kernel_rfl) (by kernel_rfl) (by simp [Scr.depth]) (by kernel_rfl) ?_
                      clear H
                      intro _ H hb
                      replace HUr := hidp (HUr.out.to hb); clear hb
                      apply s_val
                      case ho => rfl
                      case hw => rfl
                      case hv => intro w hw; go_simp; first | done | with_reducible rfl | rfl
                      simp only [Act.put, List.getElem_toArray, List.getElem_cons_zero, List.getElem_cons_succ, List.setIfInBounds_toArray, List.set_cons_zero, List.set_cons_succ]
                      apply s_val
                      case ho => rfl
                      case hw => rfl
                      case hv => intro w hw; go_simp; first | done | with_reducible rfl | rfl
                      simp only [Act.put, List.getElem_toArray, List.getElem_cons_zero, List.getElem_cons_succ, List.setIfInBounds_toArray, List.set_cons_zero, List.set_cons_succ]
                      refine Mm.sld0 naI (fun w h => h) rfl rfl (.tmp 120) 4 (.int .i64 l2.b) rfl rfl rfl ?_
                      simp only [Act.put, List.getElem_toArray, List.getElem_cons_zero, List.getElem_cons_succ, List.setIfInBounds_toArray, List.set_cons_zero, List.set_cons_succ]
                      apply s_val
                      case ho => rfl
                      case hw => rfl
                      case hv => intro w hw; go_simp; first | done | with_reducible rfl | rfl
                      simp only [Act.put, List.getElem_toArray, List.getElem_cons_zero, List.getElem_cons_succ, List.setIfInBounds_toArray, List.set_cons_zero, List.set_cons_succ]
                      apply s_val
                      case ho => rfl
                      case hw => rfl
                      case hv => intro w hw; go_simp; first | done | with_reducible rfl | rfl
                      simp only [Act.put, List.getElem_toArray, List.getElem_cons_zero, List.getElem_cons_succ, List.setIfInBounds_toArray, List.set_cons_zero, List.set_cons_succ]
                      apply s_val
                      case ho => rfl
                      case hw => rfl
                      case hv => intro w hw; go_simp; first | done | with_reducible rfl | rfl
                      simp only [Act.put, List.getElem_toArray, List.getElem_cons_zero, List.getElem_cons_succ, List.setIfInBounds_toArray, List.set_cons_zero, List.set_cons_succ]
                      refine Mm.sld0 naI (fun w h => h) rfl rfl (.tmp 124) 3 (.int .i64 l2.k) rfl rfl rfl ?_
                      simp only [Act.put, List.getElem_toArray, List.getElem_cons_zero, List.getElem_cons_succ, List.setIfInBounds_toArray, List.set_cons_zero, List.set_cons_succ]
                      apply s_val
                      case ho => rfl
                      case hw => rfl
                      case hv => intro w hw; go_simp; first | done | with_reducible rfl | rfl
                      simp only [Act.put, List.getElem_toArray, List.getElem_cons_zero, List.getElem_cons_succ, List.setIfInBounds_toArray, List.set_cons_zero, List.set_cons_succ]
                      apply s_val
                      case ho => rfl
                      case hw => rfl
                      case hv => intro w hw; go_simp; first | done | with_reducible rfl | rfl
                      simp only [Act.put, List.getElem_toArray, List.getElem_cons_zero, List.getElem_cons_succ, List.setIfInBounds_toArray, List.set_cons_zero, List.set_cons_succ]
                      refine Mm.sget0 tyL (fun w h => h) rfl rfl (.tmp 11) rfl rfl rfl ?_
                      simp only [Act.put, List.getElem_toArray, List.getElem_cons_zero, List.getElem_cons_succ, List.setIfInBounds_toArray, List.set_cons_zero, List.set_cons_succ]
                      apply s_val
                      case ho => rfl
                      case hw => rfl
                      case hv => intro w hw; go_simp; first | done | with_reducible rfl | rfl
                      simp only [Act.put, List.getElem_toArray, List.getElem_cons_zero, List.getElem_cons_succ, List.setIfInBounds_toArray, List.set_cons_zero, List.set_cons_succ]
                      refine ⟨?_, ?_⟩
                      · refine Mm.o_callH (v := .int .i64 ob) H (fun W h => h) rfl rfl 14 (#[.agg #[.int .i64 l2.a, .int .i64 l2.s, .int .i64 l2.i, .int .i64 l2.k, .int .i64 l2.b, .int .i64 l2.r, v2], .string b]) (by go_simp; first | done | rfl) (co2b.out _ HUr.out) ?_
                        clear H
                        intro _ H hb
                        replace HUr := hidp (HUr.out.to hb); clear hb
                        simp only [Act.put, List.getElem_toArray, List.getElem_cons_zero, List.getElem_cons_succ, List.setIfInBounds_toArray, List.set_cons_zero, List.set_cons_succ]
                        apply s_val
                        case ho => rfl
                        case hw => rfl
                        case hv => intro w hw; go_simp; first | done | with_reducible rfl | rfl
                        simp only [Act.put, List.getElem_toArray, List.getElem_cons_zero, List.getElem_cons_succ, List.setIfInBounds_toArray, List.set_cons_zero, List.set_cons_succ]
                        apply s_val (v := .agg #[.string (⟨#[112, 117, 98, 108, 105, 99]⟩ : ByteArray), .string (⟨#[106, 111, 105, 110]⟩ : ByteArray), .string (⟨#[106, 111, 105, 110]⟩ : ByteArray), .string (⟨#[98, 97, 110]⟩ : ByteArray), .bool false, .bool false, .bool DK, .bool DB, .bool false])
                        case ho => rfl
                        case hw => rfl
                        case hv => intro w hw; go_simp; first | done | with_reducible rfl | rfl
                        simp only [Act.put, List.getElem_toArray, List.getElem_cons_zero, List.getElem_cons_succ, List.setIfInBounds_toArray, List.set_cons_zero, List.set_cons_succ]
                        refine Mm.o_newH mvT H (fun W h => h) rfl rfl rfl ?_
                        clear H
                        intro b21 _ H nw
                        have hb := nw.below
                        have hgu := hidp (show ∀ B o n c, v2 = Value.slice (some ⟨B, o, none⟩) n c → B ≠ b21 from fun B o n c h => Nat.ne_of_lt (Nat.lt_of_lt_of_le (HUr.out.ltB B o n c h) nw.le))
                        replace HUr := hidp (HUr.out.to hb); clear hb nw
                        simp only [Act.put, List.getElem_toArray, List.getElem_cons_zero, List.getElem_cons_succ, List.setIfInBounds_toArray, List.set_cons_zero, List.set_cons_succ]
                        refine Mm.oput0 mvT H [.string (⟨#[112, 117, 98, 108, 105, 99]⟩ : ByteArray), .string (⟨#[106, 111, 105, 110]⟩ : ByteArray), .string (⟨#[106, 111, 105, 110]⟩ : ByteArray), .string (⟨#[98, 97, 110]⟩ : ByteArray), .bool false, .bool false, .bool DK, .bool DB, .bool false] (fun W h => h.tail) rfl rfl (.tmp 21) (.tmp 132) rfl rfl rfl rfl (by simp [Value.oneCell']) rfl ?_
                        intro _ H2 st
                        replace HUr := hidp (HUr.out.stpN st hgu.out); clear st H
                        have H := H2
                        clear H2
                        simp only [Act.put, List.getElem_toArray, List.getElem_cons_zero, List.getElem_cons_succ, List.setIfInBounds_toArray, List.set_cons_zero, List.set_cons_succ]
                        refine NoPanic.normal ?_
                        go_wp2_with (first | (refine Mm.skipd 147 rfl _ _ rfl rfl ?_) | (refine Mm.skipd 148 rfl _ _ rfl rfl ?_) | (refine Mm.skipd 149 rfl _ _ rfl rfl ?_) | (refine Mm.skipd 150 rfl _ _ rfl rfl ?_) | (refine Mm.skipd 151 rfl _ _ rfl rfl ?_) | (refine Mm.get0 mvT H rfl (.tmp 21) rfl rfl rfl ?_) | (go_at_call 15; refine (ca1.out _).mono ?_; rintro e _ ⟨rfl, hb⟩; replace H := hidp (H.out.call hb); clear ca1; replace HUr := hidp (HUr.out.to hb); clear hb) | (refine Mm.putF0 H rfl 9 (.tmp 136) (.const (.string (⟨#[108, 101, 97, 118, 101]⟩ : ByteArray))) 3 (.string (⟨#[108, 101, 97, 118, 101]⟩ : ByteArray)) rfl rfl rfl (by kernel_rfl) rfl (of_decide_eq_true rfl) ?_; intro _ H2 st; replace HUr := hidp (HUr.out.stpN st hgu.out) ; clear st H; have H : Hid (Mm.M w.heap.size w _ ([⟨b21, 48, [.string (⟨#[112, 117, 98, 108, 105, 99]⟩ : ByteArray), .string (⟨#[106, 111, 105, 110]⟩ : ByteArray), .string (⟨#[106, 111, 105, 110]⟩ : ByteArray), .string (⟨#[108, 101, 97, 118, 101]⟩ : ByteArray), .bool false, .bool false, .bool DK, .bool DB, .bool false]⟩, ⟨b11, 40, [.int .i64 l2.a, .int .i64 l2.s, .int .i64 l2.i, .int .i64 l2.k, .int .i64 l2.b, .int .i64 l2.r, v2]⟩])) := H2; clear H2) | (refine Mm.get0 mvT H rfl (.tmp 21) rfl rfl rfl ?_) | (go_at_call 15; refine (ca2.out _).mono ?_; rintro e _ ⟨rfl, hb⟩; replace H := hidp (H.out.call hb); clear ca2; replace HUr := hidp (HUr.out.to hb); clear hb) | (refine Mm.get1 tyL H rfl (.tmp 11) rfl rfl rfl ?_) | (go_at_call 14; refine (co2c.out _ HUr.out).mono ?_; rintro e _ ⟨rfl, hb⟩; replace H := hidp (H.out.call hb); replace HUr := hidp (HUr.out.to hb); clear hb))
                        go_ret
                        exact ⟨rfl, H.out.below⟩
                      · refine Mm.o_newH mvT H (fun W h => h) rfl rfl rfl ?_
                        clear H
                        intro b21 _ H nw
                        have hb := nw.below
                        have hgu := hidp (show ∀ B o n c, v2 = Value.slice (some ⟨B, o, none⟩) n c → B ≠ b21 from fun B o n c h => Nat.ne_of_lt (Nat.lt_of_lt_of_le (HUr.out.ltB B o n c h) nw.le))
                        replace HUr := hidp (HUr.out.to hb); clear hb nw
                        simp only [Act.put, List.getElem_toArray, List.getElem_cons_zero, List.getElem_cons_succ, List.setIfInBounds_toArray, List.set_cons_zero, List.set_cons_succ]
                        refine Mm.o_callH (v := .int .i64 ob) H (fun W h => h.tail) rfl rfl 14 (#[.agg #[.int .i64 l2.a, .int .i64 l2.s, .int .i64 l2.i, .int .i64 l2.k, .int .i64 l2.b, .int .i64 l2.r, v2], .string b]) (by go_simp; first | done | rfl) (co2b.out _ HUr.out) ?_
                        clear H
                        intro _ H hb
                        replace HUr := hidp (HUr.out.to hb); clear hb
                        simp only [Act.put, List.getElem_toArray, List.getElem_cons_zero, List.getElem_cons_succ, List.setIfInBounds_toArray, List.set_cons_zero, List.set_cons_succ]
                        apply s_val
                        case ho => rfl
                        case hw => rfl
                        case hv => intro w hw; go_simp; first | done | with_reducible rfl | rfl
                        simp only [Act.put, List.getElem_toArray, List.getElem_cons_zero, List.getElem_cons_succ, List.setIfInBounds_toArray, List.set_cons_zero, List.set_cons_succ]
                        apply s_val (v := .agg #[.string (⟨#[112, 117, 98, 108, 105, 99]⟩ : ByteArray), .string (⟨#[106, 111, 105, 110]⟩ : ByteArray), .string (⟨#[106, 111, 105, 110]⟩ : ByteArray), .string (⟨#[98, 97, 110]⟩ : ByteArray), .bool false, .bool false, .bool DK, .bool DB, .bool false])
                        case ho => rfl
                        case hw => rfl
                        case hv => intro w hw; go_simp; first | done | with_reducible rfl | rfl
                        simp only [Act.put, List.getElem_toArray, List.getElem_cons_zero, List.getElem_cons_succ, List.setIfInBounds_toArray, List.set_cons_zero, List.set_cons_succ]
                        refine Mm.oput0 mvT H [.string (⟨#[112, 117, 98, 108, 105, 99]⟩ : ByteArray), .string (⟨#[106, 111, 105, 110]⟩ : ByteArray), .string (⟨#[106, 111, 105, 110]⟩ : ByteArray), .string (⟨#[98, 97, 110]⟩ : ByteArray), .bool false, .bool false, .bool DK, .bool DB, .bool false] (fun W h => h.tail) rfl rfl (.tmp 21) (.tmp 132) rfl rfl rfl rfl (by simp [Value.oneCell']) rfl ?_
                        intro _ H2 st
                        replace HUr := hidp (HUr.out.stpN st hgu.out); clear st H
                        have H := H2
                        clear H2
                        simp only [Act.put, List.getElem_toArray, List.getElem_cons_zero, List.getElem_cons_succ, List.setIfInBounds_toArray, List.set_cons_zero, List.set_cons_succ]
                        refine NoPanic.normal ?_
                        go_wp2_with (first | (refine Mm.skipd 147 rfl _ _ rfl rfl ?_) | (refine Mm.skipd 148 rfl _ _ rfl rfl ?_) | (refine Mm.skipd 149 rfl _ _ rfl rfl ?_) | (refine Mm.skipd 150 rfl _ _ rfl rfl ?_) | (refine Mm.skipd 151 rfl _ _ rfl rfl ?_) | (refine Mm.get0 mvT H rfl (.tmp 21) rfl rfl rfl ?_) | (go_at_call 15; refine (ca1.out _).mono ?_; rintro e _ ⟨rfl, hb⟩; replace H := hidp (H.out.call hb); clear ca1; replace HUr := hidp (HUr.out.to hb); clear hb) | (refine Mm.putF0 H rfl 9 (.tmp 136) (.const (.string (⟨#[108, 101, 97, 118, 101]⟩ : ByteArray))) 3 (.string (⟨#[108, 101, 97, 118, 101]⟩ : ByteArray)) rfl rfl rfl (by kernel_rfl) rfl (of_decide_eq_true rfl) ?_; intro _ H2 st; replace HUr := hidp (HUr.out.stpN st hgu.out) ; clear st H; have H : Hid (Mm.M w.heap.size w _ ([⟨b21, 48, [.string (⟨#[112, 117, 98, 108, 105, 99]⟩ : ByteArray), .string (⟨#[106, 111, 105, 110]⟩ : ByteArray), .string (⟨#[106, 111, 105, 110]⟩ : ByteArray), .string (⟨#[108, 101, 97, 118, 101]⟩ : ByteArray), .bool false, .bool false, .bool DK, .bool DB, .bool false]⟩, ⟨b11, 40, [.int .i64 l2.a, .int .i64 l2.s, .int .i64 l2.i, .int .i64 l2.k, .int .i64 l2.b, .int .i64 l2.r, v2]⟩])) := H2; clear H2) | (refine Mm.get0 mvT H rfl (.tmp 21) rfl rfl rfl ?_) | (go_at_call 15; refine (ca2.out _).mono ?_; rintro e _ ⟨rfl, hb⟩; replace H := hidp (H.out.call hb); clear ca2; replace HUr := hidp (HUr.out.to hb); clear hb) | (refine Mm.get1 tyL H rfl (.tmp 11) rfl rfl rfl ?_) | (go_at_call 14; refine (co2c.out _ HUr.out).mono ?_; rintro e _ ⟨rfl, hb⟩; replace H := hidp (H.out.call hb); replace HUr := hidp (HUr.out.to hb); clear hb))
                        go_ret
                        exact ⟨rfl, H.out.below⟩
                    | true =>
                      clear x1 x2
                      obtain ⟨X1, hX1⟩ : ∃ X, alE (⟨#[112, 117, 98, 108, 105, 99]⟩ : ByteArray) (⟨#[106, 111, 105, 110]⟩ : ByteArray) (⟨#[106, 111, 105, 110]⟩ : ByteArray) (⟨#[98, 97, 110]⟩ : ByteArray) false false DK DB true = X := ⟨_, rfl⟩
                      obtain ⟨X2, hX2⟩ : ∃ X, alE (⟨#[112, 117, 98, 108, 105, 99]⟩ : ByteArray) (⟨#[106, 111, 105, 110]⟩ : ByteArray) (⟨#[106, 111, 105, 110]⟩ : ByteArray) (⟨#[108, 101, 97, 118, 101]⟩ : ByteArray) false false DK DB true = X := ⟨_, rfl⟩
                      rw [hX1] at ca1; rw [hX2] at ca2
                      clear hX1 hX2
                      cases hB1 : (X1 == 0) with
                      | true =>
                        go_wp2_with (first | (refine Mm.get0 tyL H rfl (.tmp 11) rfl rfl rfl ?_) | (go_at_call 14; refine (co1.out _ HUr.out).mono ?_; rintro e _ ⟨rfl, hb⟩; replace H := hidp (H.out.call hb); clear co1; replace HUr := hidp (HUr.out.to hb); clear hb) | (go_at_call 14; refine (co2.out _ HUr.out).mono ?_; rintro e _ ⟨rfl, hb⟩; replace H := hidp (H.out.call hb); clear co2; replace HUr := hidp (HUr.out.to hb); clear hb) | (go_at_call 14; refine (co1b.out _ HUr.out).mono ?_; rintro e _ ⟨rfl, hb⟩; replace H := hidp (H.out.call hb); clear co1b; replace HUr := hidp (HUr.out.to hb); clear hb))
                        refine Mm.region H (.take 0 (.take 1 (.take 2 (.take 3 (.take 4 (.take 5 (.take 6 (.take 7 (.take 8 (.take 9 (.take 10 (.two 11 (.take 12 (.take 13 (.one 14 (.one 15 .done)))) 14 (.one 11 (.take 12 (.take 13 (.one 15 .done)))))))))))))))) (by kernel_rfl) (by kernel_rfl) (by simp [Scr.depth]) (by kernel_rfl) ?_
                        clear H
                        intro _ H hb
                        replace HUr := hidp (HUr.out.to hb); clear hb
                        apply s_val
                        case ho => rfl
                        case hw => rfl
                        case hv => intro w hw; go_simp; first | done | with_reducible rfl | rfl
                        simp only [Act.put, List.getElem_toArray, List.getElem_cons_zero, List.getElem_cons_succ, List.setIfInBounds_toArray, List.set_cons_zero, List.set_cons_succ]
                        apply s_val
                        case ho => rfl
                        case hw => rfl
                        case hv => intro w hw; go_simp; first | done | with_reducible rfl | rfl
                        simp only [Act.put, List.getElem_toArray, List.getElem_cons_zero, List.getElem_cons_succ, List.setIfInBounds_toArray, List.set_cons_zero, List.set_cons_succ]
                        refine Mm.sld0 naI (fun w h => h) rfl rfl (.tmp 120) 4 (.int .i64 l2.b) rfl rfl rfl ?_
                        simp only [Act.put, List.getElem_toArray, List.getElem_cons_zero, List.getElem_cons_succ, List.setIfInBounds_toArray, List.set_cons_zero, List.set_cons_succ]
                        apply s_val
                        case ho => rfl
                        case hw => rfl
                        case hv => intro w hw; go_simp; first | done | with_reducible rfl | rfl
                        simp only [Act.put, List.getElem_toArray, List.getElem_cons_zero, List.getElem_cons_succ, List.setIfInBounds_toArray, List.set_cons_zero, List.set_cons_succ]
                        apply s_val
                        case ho => rfl
                        case hw => rfl
                        case hv => intro w hw; go_simp; first | done | with_reducible rfl | rfl
                        simp only [Act.put, List.getElem_toArray, List.getElem_cons_zero, List.getElem_cons_succ, List.setIfInBounds_toArray, List.set_cons_zero, List.set_cons_succ]
                        apply s_val
                        case ho => rfl
                        case hw => rfl
                        case hv => intro w hw; go_simp; first | done | with_reducible rfl | rfl
                        simp only [Act.put, List.getElem_toArray, List.getElem_cons_zero, List.getElem_cons_succ, List.setIfInBounds_toArray, List.set_cons_zero, List.set_cons_succ]
                        refine Mm.sld0 naI (fun w h => h) rfl rfl (.tmp 124) 3 (.int .i64 l2.k) rfl rfl rfl ?_
                        simp only [Act.put, List.getElem_toArray, List.getElem_cons_zero, List.getElem_cons_succ, List.setIfInBounds_toArray, List.set_cons_zero, List.set_cons_succ]
                        apply s_val
                        case ho => rfl
                        case hw => rfl
                        case hv => intro w hw; go_simp; first | done | with_reducible rfl | rfl
                        simp only [Act.put, List.getElem_toArray, List.getElem_cons_zero, List.getElem_cons_succ, List.setIfInBounds_toArray, List.set_cons_zero, List.set_cons_succ]
                        apply s_val
                        case ho => rfl
                        case hw => rfl
                        case hv => intro w hw; go_simp; first | done | with_reducible rfl | rfl
                        simp only [Act.put, List.getElem_toArray, List.getElem_cons_zero, List.getElem_cons_succ, List.setIfInBounds_toArray, List.set_cons_zero, List.set_cons_succ]
                        refine Mm.sget0 tyL (fun w h => h) rfl rfl (.tmp 11) rfl rfl rfl ?_
                        simp only [Act.put, List.getElem_toArray, List.getElem_cons_zero, List.getElem_cons_succ, List.setIfInBounds_toArray, List.set_cons_zero, List.set_cons_succ]
                        apply s_val
                        case ho => rfl
                        case hw => rfl
                        case hv => intro w hw; go_simp; first | done | with_reducible rfl | rfl
                        simp only [Act.put, List.getElem_toArray, List.getElem_cons_zero, List.getElem_cons_succ, List.setIfInBounds_toArray, List.set_cons_zero, List.set_cons_succ]
                        refine ⟨?_, ?_⟩
                        · refine Mm.o_callH (v := .int .i64 ob) H (fun W h => h) rfl rfl 14 (#[.agg #[.int .i64 l2.a, .int .i64 l2.s, .int .i64 l2.i, .int .i64 l2.k, .int .i64 l2.b, .int .i64 l2.r, v2], .string b]) (by go_simp; first | done | rfl) (co2b.out _ HUr.out) ?_
                          clear H
                          intro _ H hb
                          replace HUr := hidp (HUr.out.to hb); clear hb
                          simp only [Act.put, List.getElem_toArray, List.getElem_cons_zero, List.getElem_cons_succ, List.setIfInBounds_toArray, List.set_cons_zero, List.set_cons_succ]
                          apply s_val
                          case ho => rfl
                          case hw => rfl
                          case hv => intro w hw; go_simp; first | done | with_reducible rfl | rfl
                          simp only [Act.put, List.getElem_toArray, List.getElem_cons_zero, List.getElem_cons_succ, List.setIfInBounds_toArray, List.set_cons_zero, List.set_cons_succ]
                          apply s_val (v := .agg #[.string (⟨#[112, 117, 98, 108, 105, 99]⟩ : ByteArray), .string (⟨#[106, 111, 105, 110]⟩ : ByteArray), .string (⟨#[106, 111, 105, 110]⟩ : ByteArray), .string (⟨#[98, 97, 110]⟩ : ByteArray), .bool false, .bool false, .bool DK, .bool DB, .bool true])
                          case ho => rfl
                          case hw => rfl
                          case hv => intro w hw; go_simp; first | done | with_reducible rfl | rfl
                          simp only [Act.put, List.getElem_toArray, List.getElem_cons_zero, List.getElem_cons_succ, List.setIfInBounds_toArray, List.set_cons_zero, List.set_cons_succ]
                          refine Mm.o_newH mvT H (fun W h => h) rfl rfl rfl ?_
                          clear H
                          intro b21 _ H nw
                          have hb := nw.below
                          have hgu := hidp (show ∀ B o n c, v2 = Value.slice (some ⟨B, o, none⟩) n c → B ≠ b21 from fun B o n c h => Nat.ne_of_lt (Nat.lt_of_lt_of_le (HUr.out.ltB B o n c h) nw.le))
                          replace HUr := hidp (HUr.out.to hb); clear hb nw
                          simp only [Act.put, List.getElem_toArray, List.getElem_cons_zero, List.getElem_cons_succ, List.setIfInBounds_toArray, List.set_cons_zero, List.set_cons_succ]
                          refine Mm.oput0 mvT H [.string (⟨#[112, 117, 98, 108, 105, 99]⟩ : ByteArray), .string (⟨#[106, 111, 105, 110]⟩ : ByteArray), .string (⟨#[106, 111, 105, 110]⟩ : ByteArray), .string (⟨#[98, 97, 110]⟩ : ByteArray), .bool false, .bool false, .bool DK, .bool DB, .bool true] (fun W h => h.tail) rfl rfl (.tmp 21) (.tmp 132) rfl rfl rfl rfl (by simp [Value.oneCell']) rfl ?_
                          intro _ H2 st
                          replace HUr := hidp (HUr.out.stpN st hgu.out); clear st H
                          have H := H2
                          clear H2
                          simp only [Act.put, List.getElem_toArray, List.getElem_cons_zero, List.getElem_cons_succ, List.setIfInBounds_toArray, List.set_cons_zero, List.set_cons_succ]
                          refine NoPanic.normal ?_
                          go_wp2_with (first | (refine Mm.skipd 143 rfl _ _ rfl rfl ?_) | (refine Mm.skipd 144 rfl _ _ rfl rfl ?_) | (refine Mm.get0 mvT H rfl (.tmp 21) rfl rfl rfl ?_) | (go_at_call 15; refine (ca1.out _).mono ?_; rintro e _ ⟨rfl, hb⟩; replace H := hidp (H.out.call hb); clear ca1; replace HUr := hidp (HUr.out.to hb); clear hb) | (refine Mm.putF0 H rfl 9 (.tmp 136) (.const (.string (⟨#[108, 101, 97, 118, 101]⟩ : ByteArray))) 3 (.string (⟨#[108, 101, 97, 118, 101]⟩ : ByteArray)) rfl rfl rfl (by kernel_rfl) rfl (of_decide_eq_true rfl) ?_; intro _ H2 st; replace HUr := hidp (HUr.out.stpN st hgu.out) ; clear st H; have H : Hid (Mm.M w.heap.size w _ ([⟨b21, 48, [.string (⟨#[112, 117, 98, 108, 105, 99]⟩ : ByteArray), .string (⟨#[106, 111, 105, 110]⟩ : ByteArray), .string (⟨#[106, 111, 105, 110]⟩ : ByteArray), .string (⟨#[108, 101, 97, 118, 101]⟩ : ByteArray), .bool false, .bool false, .bool DK, .bool DB, .bool true]⟩, ⟨b11, 40, [.int .i64 l2.a, .int .i64 l2.s, .int .i64 l2.i, .int .i64 l2.k, .int .i64 l2.b, .int .i64 l2.r, v2]⟩])) := H2; clear H2) | (refine Mm.get0 mvT H rfl (.tmp 21) rfl rfl rfl ?_) | (go_at_call 15; refine (ca2.out _).mono ?_; rintro e _ ⟨rfl, hb⟩; replace H := hidp (H.out.call hb); clear ca2; replace HUr := hidp (HUr.out.to hb); clear hb) | (refine Mm.get1 tyL H rfl (.tmp 11) rfl rfl rfl ?_) | (go_at_call 14; refine (co2c.out _ HUr.out).mono ?_; rintro e _ ⟨rfl, hb⟩; replace H := hidp (H.out.call hb); replace HUr := hidp (HUr.out.to hb); clear hb))
                          go_ret
                          exact ⟨rfl, H.out.below⟩
                        · refine Mm.o_newH mvT H (fun W h => h) rfl rfl rfl ?_
                          clear H
                          intro b21 _ H nw
                          have hb := nw.below
                          have hgu := hidp (show ∀ B o n c, v2 = Value.slice (some ⟨B, o, none⟩) n c → B ≠ b21 from fun B o n c h => Nat.ne_of_lt (Nat.lt_of_lt_of_le (HUr.out.ltB B o n c h) nw.le))
                          replace HUr := hidp (HUr.out.to hb); clear hb nw
                          simp only [Act.put, List.getElem_toArray, List.getElem_cons_zero, List.getElem_cons_succ, List.setIfInBounds_toArray, List.set_cons_zero, List.set_cons_succ]
                          refine Mm.o_callH (v := .int .i64 ob) H (fun W h => h.tail) rfl rfl 14 (#[.agg #[.int .i64 l2.a, .int .i64 l2.s, .int .i64 l2.i, .int .i64 l2.k, .int .i64 l2.b, .int .i64 l2.r, v2], .string b]) (by go_simp; first | done | rfl) (co2b.out _ HUr.out) ?_
                          clear H
                          intro _ H hb
                          replace HUr := hidp (HUr.out.to hb); clear hb
                          simp only [Act.put, List.getElem_toArray, List.getElem_cons_zero, List.getElem_cons_succ, List.setIfInBounds_toArray, List.set_cons_zero, List.set_cons_succ]
                          apply s_val
                          case ho => rfl
                          case hw => rfl
                          case hv => intro w hw; go_simp; first | done | with_reducible rfl | rfl
                          simp only [Act.put, List.getElem_toArray, List.getElem_cons_zero, List.getElem_cons_succ, List.setIfInBounds_toArray, List.set_cons_zero, List.set_cons_succ]
                          apply s_val (v := .agg #[.string (⟨#[112, 117, 98, 108, 105, 99]⟩ : ByteArray), .string (⟨#[106, 111, 105, 110]⟩ : ByteArray), .string (⟨#[106, 111, 105, 110]⟩ : ByteArray), .string (⟨#[98, 97, 110]⟩ : ByteArray), .bool false, .bool false, .bool DK, .bool DB, .bool true])
                          case ho => rfl
                          case hw => rfl
                          case hv => intro w hw; go_simp; first | done | with_reducible rfl | rfl
                          simp only [Act.put, List.getElem_toArray, List.getElem_cons_zero, List.getElem_cons_succ, List.setIfInBounds_toArray, List.set_cons_zero, List.set_cons_succ]
                          refine Mm.oput0 mvT H [.string (⟨#[112, 117, 98, 108, 105, 99]⟩ : ByteArray), .string (⟨#[106, 111, 105, 110]⟩ : ByteArray), .string (⟨#[106, 111, 105, 110]⟩ : ByteArray), .string (⟨#[98, 97, 110]⟩ : ByteArray), .bool false, .bool false, .bool DK, .bool DB, .bool true] (fun W h => h.tail) rfl rfl (.tmp 21) (.tmp 132) rfl rfl rfl rfl (by simp [Value.oneCell']) rfl ?_
                          intro _ H2 st
                          replace HUr := hidp (HUr.out.stpN st hgu.out); clear st H
                          have H := H2
                          clear H2
                          simp only [Act.put, List.getElem_toArray, List.getElem_cons_zero, List.getElem_cons_succ, List.setIfInBounds_toArray, List.set_cons_zero, List.set_cons_succ]
                          refine NoPanic.normal ?_
                          go_wp2_with (first | (refine Mm.skipd 143 rfl _ _ rfl rfl ?_) | (refine Mm.skipd 144 rfl _ _ rfl rfl ?_) | (refine Mm.get0 mvT H rfl (.tmp 21) rfl rfl rfl ?_) | (go_at_call 15; refine (ca1.out _).mono ?_; rintro e _ ⟨rfl, hb⟩; replace H := hidp (H.out.call hb); clear ca1; replace HUr := hidp (HUr.out.to hb); clear hb) | (refine Mm.putF0 H rfl 9 (.tmp 136) (.const (.string (⟨#[108, 101, 97, 118, 101]⟩ : ByteArray))) 3 (.string (⟨#[108, 101, 97, 118, 101]⟩ : ByteArray)) rfl rfl rfl (by kernel_rfl) rfl (of_decide_eq_true rfl) ?_; intro _ H2 st; replace HUr := hidp (HUr.out.stpN st hgu.out) ; clear st H; have H : Hid (Mm.M w.heap.size w _ ([⟨b21, 48, [.string (⟨#[112, 117, 98, 108, 105, 99]⟩ : ByteArray), .string (⟨#[106, 111, 105, 110]⟩ : ByteArray), .string (⟨#[106, 111, 105, 110]⟩ : ByteArray), .string (⟨#[108, 101, 97, 118, 101]⟩ : ByteArray), .bool false, .bool false, .bool DK, .bool DB, .bool true]⟩, ⟨b11, 40, [.int .i64 l2.a, .int .i64 l2.s, .int .i64 l2.i, .int .i64 l2.k, .int .i64 l2.b, .int .i64 l2.r, v2]⟩])) := H2; clear H2) | (refine Mm.get0 mvT H rfl (.tmp 21) rfl rfl rfl ?_) | (go_at_call 15; refine (ca2.out _).mono ?_; rintro e _ ⟨rfl, hb⟩; replace H := hidp (H.out.call hb); clear ca2; replace HUr := hidp (HUr.out.to hb); clear hb) | (refine Mm.get1 tyL H rfl (.tmp 11) rfl rfl rfl ?_) | (go_at_call 14; refine (co2c.out _ HUr.out).mono ?_; rintro e _ ⟨rfl, hb⟩; replace H := hidp (H.out.call hb); replace HUr := hidp (HUr.out.to hb); clear hb))
                          go_ret
                          exact ⟨rfl, H.out.below⟩
                      | false =>
                        cases hB2 : (X2 == 0) with
                        | true =>
                          go_wp2_with (first | (refine Mm.get0 tyL H rfl (.tmp 11) rfl rfl rfl ?_) | (go_at_call 14; refine (co1.out _ HUr.out).mono ?_; rintro e _ ⟨rfl, hb⟩; replace H := hidp (H.out.call hb); clear co1; replace HUr := hidp (HUr.out.to hb); clear hb) | (go_at_call 14; refine (co2.out _ HUr.out).mono ?_; rintro e _ ⟨rfl, hb⟩; replace H := hidp (H.out.call hb); clear co2; replace HUr := hidp (HUr.out.to hb); clear hb) | (go_at_call 14; refine (co1b.out _ HUr.out).mono ?_; rintro e _ ⟨rfl, hb⟩; replace H := hidp (H.out.call hb); clear co1b; replace HUr := hidp (HUr.out.to hb); clear hb))
                          refine Mm.region H (.take 0 (.take 1 (.take 2 (.take 3 (.take 4 (.take 5 (.take 6 (.take 7 (.take 8 (.take 9 (.take 10 (.two 11 (.take 12 (.take 13 (.one 14 (.one 15 .done)))) 14 (.one 11 (.take 12 (.take 13 (.one 15 .done)))))))))))))))) (by kernel_rfl) (by kernel_rfl) (by simp [Scr.depth]) (by kernel_rfl) ?_
                          clear H
                          intro _ H hb
                          replace HUr := hidp (HUr.out.to hb); clear hb
                          apply s_val
                          case ho => rfl
                          case hw => rfl
                          case hv => intro w hw; go_simp; first | done | with_reducible rfl | rfl
                          simp only [Act.put, List.getElem_toArray, List.getElem_cons_zero, List.getElem_cons_succ, List.setIfInBounds_toArray, List.set_cons_zero, List.set_cons_succ]
                          apply s_val
                          case ho => rfl
                          case hw => rfl
                          case hv => intro w hw; go_simp; first | done | with_reducible rfl | rfl
                          simp only [Act.put, List.getElem_toArray, List.getElem_cons_zero, List.getElem_cons_succ, List.setIfInBounds_toArray, List.set_cons_zero, List.set_cons_succ]
                          refine Mm.sld0 naI (fun w h => h) rfl rfl (.tmp 120) 4 (.int .i64 l2.b) rfl rfl rfl ?_
                          simp only [Act.put, List.getElem_toArray, List.getElem_cons_zero, List.getElem_cons_succ, List.setIfInBounds_toArray, List.set_cons_zero, List.set_cons_succ]
                          apply s_val
                          case ho => rfl
                          case hw => rfl
                          case hv => intro w hw; go_simp; first | done | with_reducible rfl | rfl
                          simp only [Act.put, List.getElem_toArray, List.getElem_cons_zero, List.getElem_cons_succ, List.setIfInBounds_toArray, List.set_cons_zero, List.set_cons_succ]
                          apply s_val
                          case ho => rfl
                          case hw => rfl
                          case hv => intro w hw; go_simp; first | done | with_reducible rfl | rfl
                          simp only [Act.put, List.getElem_toArray, List.getElem_cons_zero, List.getElem_cons_succ, List.setIfInBounds_toArray, List.set_cons_zero, List.set_cons_succ]
                          apply s_val
                          case ho => rfl
                          case hw => rfl
                          case hv => intro w hw; go_simp; first | done | with_reducible rfl | rfl
                          simp only [Act.put, List.getElem_toArray, List.getElem_cons_zero, List.getElem_cons_succ, List.setIfInBounds_toArray, List.set_cons_zero, List.set_cons_succ]
                          refine Mm.sld0 naI (fun w h => h) rfl rfl (.tmp 124) 3 (.int .i64 l2.k) rfl rfl rfl ?_
                          simp only [Act.put, List.getElem_toArray, List.getElem_cons_zero, List.getElem_cons_succ, List.setIfInBounds_toArray, List.set_cons_zero, List.set_cons_succ]
                          apply s_val
                          case ho => rfl
                          case hw => rfl
                          case hv => intro w hw; go_simp; first | done | with_reducible rfl | rfl
                          simp only [Act.put, List.getElem_toArray, List.getElem_cons_zero, List.getElem_cons_succ, List.setIfInBounds_toArray, List.set_cons_zero, List.set_cons_succ]
                          apply s_val
                          case ho => rfl
                          case hw => rfl
                          case hv => intro w hw; go_simp; first | done | with_reducible rfl | rfl
                          simp only [Act.put, List.getElem_toArray, List.getElem_cons_zero, List.getElem_cons_succ, List.setIfInBounds_toArray, List.set_cons_zero, List.set_cons_succ]
                          refine Mm.sget0 tyL (fun w h => h) rfl rfl (.tmp 11) rfl rfl rfl ?_
                          simp only [Act.put, List.getElem_toArray, List.getElem_cons_zero, List.getElem_cons_succ, List.setIfInBounds_toArray, List.set_cons_zero, List.set_cons_succ]
                          apply s_val
                          case ho => rfl
                          case hw => rfl
                          case hv => intro w hw; go_simp; first | done | with_reducible rfl | rfl
                          simp only [Act.put, List.getElem_toArray, List.getElem_cons_zero, List.getElem_cons_succ, List.setIfInBounds_toArray, List.set_cons_zero, List.set_cons_succ]
                          refine ⟨?_, ?_⟩
                          · refine Mm.o_callH (v := .int .i64 ob) H (fun W h => h) rfl rfl 14 (#[.agg #[.int .i64 l2.a, .int .i64 l2.s, .int .i64 l2.i, .int .i64 l2.k, .int .i64 l2.b, .int .i64 l2.r, v2], .string b]) (by go_simp; first | done | rfl) (co2b.out _ HUr.out) ?_
                            clear H
                            intro _ H hb
                            replace HUr := hidp (HUr.out.to hb); clear hb
                            simp only [Act.put, List.getElem_toArray, List.getElem_cons_zero, List.getElem_cons_succ, List.setIfInBounds_toArray, List.set_cons_zero, List.set_cons_succ]
                            apply s_val
                            case ho => rfl
                            case hw => rfl
                            case hv => intro w hw; go_simp; first | done | with_reducible rfl | rfl
                            simp only [Act.put, List.getElem_toArray, List.getElem_cons_zero, List.getElem_cons_succ, List.setIfInBounds_toArray, List.set_cons_zero, List.set_cons_succ]
                            apply s_val (v := .agg #[.string (⟨#[112, 117, 98, 108, 105, 99]⟩ : ByteArray), .string (⟨#[106, 111, 105, 110]⟩ : ByteArray), .string (⟨#[106, 111, 105, 110]⟩ : ByteArray), .string (⟨#[98, 97, 110]⟩ : ByteArray), .bool false, .bool false, .bool DK, .bool DB, .bool true])
                            case ho => rfl
                            case hw => rfl
                            case hv => intro w hw; go_simp; first | done | with_reducible rfl | rfl
                            simp only [Act.put, List.getElem_toArray, List.getElem_cons_zero, List.getElem_cons_succ, List.setIfInBounds_toArray, List.set_cons_zero, List.set_cons_succ]
                            refine Mm.o_newH mvT H (fun W h => h) rfl rfl rfl ?_
                            clear H
                            intro b21 _ H nw
                            have hb := nw.below
                            have hgu := hidp (show ∀ B o n c, v2 = Value.slice (some ⟨B, o, none⟩) n c → B ≠ b21 from fun B o n c h => Nat.ne_of_lt (Nat.lt_of_lt_of_le (HUr.out.ltB B o n c h) nw.le))
                            replace HUr := hidp (HUr.out.to hb); clear hb nw
                            simp only [Act.put, List.getElem_toArray, List.getElem_cons_zero, List.getElem_cons_succ, List.setIfInBounds_toArray, List.set_cons_zero, List.set_cons_succ]
                            refine Mm.oput0 mvT H [.string (⟨#[112, 117, 98, 108, 105, 99]⟩ : ByteArray), .string (⟨#[106, 111, 105, 110]⟩ : ByteArray), .string (⟨#[106, 111, 105, 110]⟩ : ByteArray), .string (⟨#[98, 97, 110]⟩ : ByteArray), .bool false, .bool false, .bool DK, .bool DB, .bool true] (fun W h => h.tail) rfl rfl (.tmp 21) (.tmp 132) rfl rfl rfl rfl (by simp [Value.oneCell']) rfl ?_
                            intro _ H2 st
                            replace HUr := hidp (HUr.out.stpN st hgu.out); clear st H
                            have H := H2
                            clear H2
                            simp only [Act.put, List.getElem_toArray, List.getElem_cons_zero, List.getElem_cons_succ, List.setIfInBounds_toArray, List.set_cons_zero, List.set_cons_succ]
                            refine NoPanic.normal ?_
                            go_wp2_with (first | (refine Mm.get0 mvT H rfl (.tmp 21) rfl rfl rfl ?_) | (go_at_call 15; refine (ca1.out _).mono ?_; rintro e _ ⟨rfl, hb⟩; replace H := hidp (H.out.call hb); clear ca1; replace HUr := hidp (HUr.out.to hb); clear hb) | (refine Mm.putF0 H rfl 9 (.tmp 136) (.const (.string (⟨#[108, 101, 97, 118, 101]⟩ : ByteArray))) 3 (.string (⟨#[108, 101, 97, 118, 101]⟩ : ByteArray)) rfl rfl rfl (by kernel_rfl) rfl (of_decide_eq_true rfl) ?_; intro _ H2 st; replace HUr := hidp (HUr.out.stpN st hgu.out) ; clear st H; have H : Hid (Mm.M w.heap.size w _ ([⟨b21, 48, [.string (⟨#[112, 117, 98, 108, 105, 99]⟩ : ByteArray), .string (⟨#[106, 111, 105, 110]⟩ : ByteArray), .string (⟨#[106, 111, 105, 110]⟩ : ByteArray), .string (⟨#[108, 101, 97, 118, 101]⟩ : ByteArray), .bool false, .bool false, .bool DK, .bool DB, .bool true]⟩, ⟨b11, 40, [.int .i64 l2.a, .int .i64 l2.s, .int .i64 l2.i, .int .i64 l2.k, .int .i64 l2.b, .int .i64 l2.r, v2]⟩])) := H2; clear H2) | (refine Mm.get0 mvT H rfl (.tmp 21) rfl rfl rfl ?_) | (go_at_call 15; refine (ca2.out _).mono ?_; rintro e _ ⟨rfl, hb⟩; replace H := hidp (H.out.call hb); clear ca2; replace HUr := hidp (HUr.out.to hb); clear hb) | (refine Mm.get1 tyL H rfl (.tmp 11) rfl rfl rfl ?_) | (go_at_call 14; refine (co2c.out _ HUr.out).mono ?_; rintro e _ ⟨rfl, hb⟩; replace H := hidp (H.out.call hb); replace HUr := hidp (HUr.out.to hb); clear hb))
                            go_ret
                            exact ⟨rfl, H.out.below⟩
                          · refine Mm.o_newH mvT H (fun W h => h) rfl rfl rfl ?_
                            clear H
                            intro b21 _ H nw
                            have hb := nw.below
                            have hgu := hidp (show ∀ B o n c, v2 = Value.slice (some ⟨B, o, none⟩) n c → B ≠ b21 from fun B o n c h => Nat.ne_of_lt (Nat.lt_of_lt_of_le (HUr.out.ltB B o n c h) nw.le))
                            replace HUr := hidp (HUr.out.to hb); clear hb nw
                            simp only [Act.put, List.getElem_toArray, List.getElem_cons_zero, List.getElem_cons_succ, List.setIfInBounds_toArray, List.set_cons_zero, List.set_cons_succ]
                            refine Mm.o_callH (v := .int .i64 ob) H (fun W h => h.tail) rfl rfl 14 (#[.agg #[.int .i64 l2.a, .int .i64 l2.s, .int .i64 l2.i, .int .i64 l2.k, .int .i64 l2.b, .int .i64 l2.r, v2], .string b]) (by go_simp; first | done | rfl) (co2b.out _ HUr.out) ?_
                            clear H
                            intro _ H hb
                            replace HUr := hidp (HUr.out.to hb); clear hb
                            simp only [Act.put, List.getElem_toArray, List.getElem_cons_zero, List.getElem_cons_succ, List.setIfInBounds_toArray, List.set_cons_zero, List.set_cons_succ]
                            apply s_val
                            case ho => rfl
                            case hw => rfl
                            case hv => intro w hw; go_simp; first | done | with_reducible rfl | rfl
                            simp only [Act.put, List.getElem_toArray, List.getElem_cons_zero, List.getElem_cons_succ, List.setIfInBounds_toArray, List.set_cons_zero, List.set_cons_succ]
                            apply s_val (v := .agg #[.string (⟨#[112, 117, 98, 108, 105, 99]⟩ : ByteArray), .string (⟨#[106, 111, 105, 110]⟩ : ByteArray), .string (⟨#[106, 111, 105, 110]⟩ : ByteArray), .string (⟨#[98, 97, 110]⟩ : ByteArray), .bool false, .bool false, .bool DK, .bool DB, .bool true])
                            case ho => rfl
                            case hw => rfl
                            case hv => intro w hw; go_simp; first | done | with_reducible rfl | rfl
                            simp only [Act.put, List.getElem_toArray, List.getElem_cons_zero, List.getElem_cons_succ, List.setIfInBounds_toArray, List.set_cons_zero, List.set_cons_succ]
                            refine Mm.oput0 mvT H [.string (⟨#[112, 117, 98, 108, 105, 99]⟩ : ByteArray), .string (⟨#[106, 111, 105, 110]⟩ : ByteArray), .string (⟨#[106, 111, 105, 110]⟩ : ByteArray), .string (⟨#[98, 97, 110]⟩ : ByteArray), .bool false, .bool false, .bool DK, .bool DB, .bool true] (fun W h => h.tail) rfl rfl (.tmp 21) (.tmp 132) rfl rfl rfl rfl (by simp [Value.oneCell']) rfl ?_
                            intro _ H2 st
                            replace HUr := hidp (HUr.out.stpN st hgu.out); clear st H
                            have H := H2
                            clear H2
                            simp only [Act.put, List.getElem_toArray, List.getElem_cons_zero, List.getElem_cons_succ, List.setIfInBounds_toArray, List.set_cons_zero, List.set_cons_succ]
                            refine NoPanic.normal ?_
                            go_wp2_with (first | (refine Mm.get0 mvT H rfl (.tmp 21) rfl rfl rfl ?_) | (go_at_call 15; refine (ca1.out _).mono ?_; rintro e _ ⟨rfl, hb⟩; replace H := hidp (H.out.call hb); clear ca1; replace HUr := hidp (HUr.out.to hb); clear hb) | (refine Mm.putF0 H rfl 9 (.tmp 136) (.const (.string (⟨#[108, 101, 97, 118, 101]⟩ : ByteArray))) 3 (.string (⟨#[108, 101, 97, 118, 101]⟩ : ByteArray)) rfl rfl rfl (by kernel_rfl) rfl (of_decide_eq_true rfl) ?_; intro _ H2 st; replace HUr := hidp (HUr.out.stpN st hgu.out) ; clear st H; have H : Hid (Mm.M w.heap.size w _ ([⟨b21, 48, [.string (⟨#[112, 117, 98, 108, 105, 99]⟩ : ByteArray), .string (⟨#[106, 111, 105, 110]⟩ : ByteArray), .string (⟨#[106, 111, 105, 110]⟩ : ByteArray), .string (⟨#[108, 101, 97, 118, 101]⟩ : ByteArray), .bool false, .bool false, .bool DK, .bool DB, .bool true]⟩, ⟨b11, 40, [.int .i64 l2.a, .int .i64 l2.s, .int .i64 l2.i, .int .i64 l2.k, .int .i64 l2.b, .int .i64 l2.r, v2]⟩])) := H2; clear H2) | (refine Mm.get0 mvT H rfl (.tmp 21) rfl rfl rfl ?_) | (go_at_call 15; refine (ca2.out _).mono ?_; rintro e _ ⟨rfl, hb⟩; replace H := hidp (H.out.call hb); clear ca2; replace HUr := hidp (HUr.out.to hb); clear hb) | (refine Mm.get1 tyL H rfl (.tmp 11) rfl rfl rfl ?_) | (go_at_call 14; refine (co2c.out _ HUr.out).mono ?_; rintro e _ ⟨rfl, hb⟩; replace H := hidp (H.out.call hb); replace HUr := hidp (HUr.out.to hb); clear hb))
                            go_ret
                            exact ⟨rfl, H.out.below⟩
                        | false =>
                          go_wp2_with (first | (refine Mm.get0 tyL H rfl (.tmp 11) rfl rfl rfl ?_) | (go_at_call 14; refine (co1.out _ HUr.out).mono ?_; rintro e _ ⟨rfl, hb⟩; replace H := hidp (H.out.call hb); clear co1; replace HUr := hidp (HUr.out.to hb); clear hb) | (go_at_call 14; refine (co2.out _ HUr.out).mono ?_; rintro e _ ⟨rfl, hb⟩; replace H := hidp (H.out.call hb); clear co2; replace HUr := hidp (HUr.out.to hb); clear hb) | (go_at_call 14; refine (co1b.out _ HUr.out).mono ?_; rintro e _ ⟨rfl, hb⟩; replace H := hidp (H.out.call hb); clear co1b; replace HUr := hidp (HUr.out.to hb); clear hb))
                          refine Mm.region H (.take 0 (.take 1 (.take 2 (.take 3 (.take 4 (.take 5 (.take 6 (.take 7 (.take 8 (.take 9 (.take 10 (.two 11 (.take 12 (.take 13 (.one 14 (.one 15 .done)))) 14 (.one 11 (.take 12 (.take 13 (.one 15 .done)))))))))))))))) (by kernel_rfl) (by kernel_rfl) (by simp [Scr.depth]) (by kernel_rfl) ?_
                          clear H
                          intro _ H hb
                          replace HUr := hidp (HUr.out.to hb); clear hb
                          apply s_val
                          case ho => rfl
                          case hw => rfl
                          case hv => intro w hw; go_simp; first | done | with_reducible rfl | rfl
                          simp only [Act.put, List.getElem_toArray, List.getElem_cons_zero, List.getElem_cons_succ, List.setIfInBounds_toArray, List.set_cons_zero, List.set_cons_succ]
                          apply s_val
                          case ho => rfl
                          case hw => rfl
                          case hv => intro w hw; go_simp; first | done | with_reducible rfl | rfl
                          simp only [Act.put, List.getElem_toArray, List.getElem_cons_zero, List.getElem_cons_succ, List.setIfInBounds_toArray, List.set_cons_zero, List.set_cons_succ]
                          refine Mm.sld0 naI (fun w h => h) rfl rfl (.tmp 120) 4 (.int .i64 l2.b) rfl rfl rfl ?_
                          simp only [Act.put, List.getElem_toArray, List.getElem_cons_zero, List.getElem_cons_succ, List.setIfInBounds_toArray, List.set_cons_zero, List.set_cons_succ]
                          apply s_val
                          case ho => rfl
                          case hw => rfl
                          case hv => intro w hw; go_simp; first | done | with_reducible rfl | rfl
                          simp only [Act.put, List.getElem_toArray, List.getElem_cons_zero, List.getElem_cons_succ, List.setIfInBounds_toArray, List.set_cons_zero, List.set_cons_succ]
                          apply s_val
                          case ho => rfl
                          case hw => rfl
                          case hv => intro w hw; go_simp; first | done | with_reducible rfl | rfl
                          simp only [Act.put, List.getElem_toArray, List.getElem_cons_zero, List.getElem_cons_succ, List.setIfInBounds_toArray, List.set_cons_zero, List.set_cons_succ]
                          apply s_val
                          case ho => rfl
                          case hw => rfl
                          case hv => intro w hw; go_simp; first | done | with_reducible rfl | rfl
                          simp only [Act.put, List.getElem_toArray, List.getElem_cons_zero, List.getElem_cons_succ, List.setIfInBounds_toArray, List.set_cons_zero, List.set_cons_succ]
                          refine Mm.sld0 naI (fun w h => h) rfl rfl (.tmp 124) 3 (.int .i64 l2.k) rfl rfl rfl ?_
                          simp only [Act.put, List.getElem_toArray, List.getElem_cons_zero, List.getElem_cons_succ, List.setIfInBounds_toArray, List.set_cons_zero, List.set_cons_succ]
                          apply s_val
                          case ho => rfl
                          case hw => rfl
                          case hv => intro w hw; go_simp; first | done | with_reducible rfl | rfl
                          simp only [Act.put, List.getElem_toArray, List.getElem_cons_zero, List.getElem_cons_succ, List.setIfInBounds_toArray, List.set_cons_zero, List.set_cons_succ]
                          apply s_val
                          case ho => rfl
                          case hw => rfl
                          case hv => intro w hw; go_simp; first | done | with_reducible rfl | rfl
                          simp only [Act.put, List.getElem_toArray, List.getElem_cons_zero, List.getElem_cons_succ, List.setIfInBounds_toArray, List.set_cons_zero, List.set_cons_succ]
                          refine Mm.sget0 tyL (fun w h => h) rfl rfl (.tmp 11) rfl rfl rfl ?_
                          simp only [Act.put, List.getElem_toArray, List.getElem_cons_zero, List.getElem_cons_succ, List.setIfInBounds_toArray, List.set_cons_zero, List.set_cons_succ]
                          apply s_val
                          case ho => rfl
                          case hw => rfl
                          case hv => intro w hw; go_simp; first | done | with_reducible rfl | rfl
                          simp only [Act.put, List.getElem_toArray, List.getElem_cons_zero, List.getElem_cons_succ, List.setIfInBounds_toArray, List.set_cons_zero, List.set_cons_succ]
                          refine ⟨?_, ?_⟩
                          · refine Mm.o_callH (v := .int .i64 ob) H (fun W h => h) rfl rfl 14 (#[.agg #[.int .i64 l2.a, .int .i64 l2.s, .int .i64 l2.i, .int .i64 l2.k, .int .i64 l2.b, .int .i64 l2.r, v2], .string b]) (by go_simp; first | done | rfl) (co2b.out _ HUr.out) ?_
                            clear H
                            intro _ H hb
                            replace HUr := hidp (HUr.out.to hb); clear hb
                            simp only [Act.put, List.getElem_toArray, List.getElem_cons_zero, List.getElem_cons_succ, List.setIfInBounds_toArray, List.set_cons_zero, List.set_cons_succ]
                            apply s_val
                            case ho => rfl
                            case hw => rfl
                            case hv => intro w hw; go_simp; first | done | with_reducible rfl | rfl
                            simp only [Act.put, List.getElem_toArray, List.getElem_cons_zero, List.getElem_cons_succ, List.setIfInBounds_toArray, List.set_cons_zero, List.set_cons_succ]
                            apply s_val (v := .agg #[.string (⟨#[112, 117, 98, 108, 105, 99]⟩ : ByteArray), .string (⟨#[106, 111, 105, 110]⟩ : ByteArray), .string (⟨#[106, 111, 105, 110]⟩ : ByteArray), .string (⟨#[98, 97, 110]⟩ : ByteArray), .bool false, .bool false, .bool DK, .bool DB, .bool true])
                            case ho => rfl
                            case hw => rfl
                            case hv => intro w hw; go_simp; first | done | with_reducible rfl | rfl
                            simp only [Act.put, List.getElem_toArray, List.getElem_cons_zero, List.getElem_cons_succ, List.setIfInBounds_toArray, List.set_cons_zero, List.set_cons_succ]
                            refine Mm.o_newH mvT H (fun W h => h) rfl rfl rfl ?_
                            clear H
                            intro b21 _ H nw
                            have hb := nw.below
                            have hgu := hidp (show ∀ B o n c, v2 = Value.slice (some ⟨B, o, none⟩) n c → B ≠ b21 from fun B o n c h => Nat.ne_of_lt (Nat.lt_of_lt_of_le (HUr.out.ltB B o n c h) nw.le))
                            replace HUr := hidp (HUr.out.to hb); clear hb nw
                            simp only [Act.put, List.getElem_toArray, List.getElem_cons_zero, List.getElem_cons_succ, List.setIfInBounds_toArray, List.set_cons_zero, List.set_cons_succ]
                            refine Mm.oput0 mvT H [.string (⟨#[112, 117, 98, 108, 105, 99]⟩ : ByteArray), .string (⟨#[106, 111, 105, 110]⟩ : ByteArray), .string (⟨#[106, 111, 105, 110]⟩ : ByteArray), .string (⟨#[98, 97, 110]⟩ : ByteArray), .bool false, .bool false, .bool DK, .bool DB, .bool true] (fun W h => h.tail) rfl rfl (.tmp 21) (.tmp 132) rfl rfl rfl rfl (by simp [Value.oneCell']) rfl ?_
                            intro _ H2 st
                            replace HUr := hidp (HUr.out.stpN st hgu.out); clear st H
                            have H := H2
                            clear H2
                            simp only [Act.put, List.getElem_toArray, List.getElem_cons_zero, List.getElem_cons_succ, List.setIfInBounds_toArray, List.set_cons_zero, List.set_cons_succ]
                            refine NoPanic.normal ?_
                            go_wp2_with (first | (refine Mm.skipd 147 rfl _ _ rfl rfl ?_) | (refine Mm.skipd 148 rfl _ _ rfl rfl ?_) | (refine Mm.skipd 149 rfl _ _ rfl rfl ?_) | (refine Mm.skipd 150 rfl _ _ rfl rfl ?_) | (refine Mm.skipd 151 rfl _ _ rfl rfl ?_) | (refine Mm.get0 mvT H rfl (.tmp 21) rfl rfl rfl ?_) | (go_at_call 15; refine (ca1.out _).mono ?_; rintro e _ ⟨rfl, hb⟩; replace H := hidp (H.out.call hb); clear ca1; replace HUr := hidp (HUr.out.to hb); clear hb) | (refine Mm.putF0 H rfl 9 (.tmp 136) (.const (.string (⟨#[108, 101, 97, 118, 101]⟩ : ByteArray))) 3 (.string (⟨#[108, 101, 97, 118, 101]⟩ : ByteArray)) rfl rfl rfl (by kernel_rfl) rfl (of_decide_eq_true rfl) ?_; intro _ H2 st; replace HUr := hidp (HUr.out.stpN st hgu.out) ; clear st H; have H : Hid (Mm.M w.heap.size w _ ([⟨b21, 48, [.string (⟨#[112, 117, 98, 108, 105, 99]⟩ : ByteArray), .string (⟨#[106, 111, 105, 110]⟩ : ByteArray), .string (⟨#[106, 111, 105, 110]⟩ : ByteArray), .string (⟨#[108, 101, 97, 118, 101]⟩ : ByteArray), .bool false, .bool false, .bool DK, .bool DB, .bool true]⟩, ⟨b11, 40, [.int .i64 l2.a, .int .i64 l2.s, .int .i64 l2.i, .int .i64 l2.k, .int .i64 l2.b, .int .i64 l2.r, v2]⟩])) := H2; clear H2) | (refine Mm.get0 mvT H rfl (.tmp 21) rfl rfl rfl ?_) | (go_at_call 15; refine (ca2.out _).mono ?_; rintro e _ ⟨rfl, hb⟩; replace H := hidp (H.out.call hb); clear ca2; replace HUr := hidp (HUr.out.to hb); clear hb) | (refine Mm.get1 tyL H rfl (.tmp 11) rfl rfl rfl ?_) | (go_at_call 14; refine (co2c.out _ HUr.out).mono ?_; rintro e _ ⟨rfl, hb⟩; replace H := hidp (H.out.call hb); replace HUr := hidp (HUr.out.to hb); clear hb))
                            go_ret
                            exact ⟨rfl, H.out.below⟩
                          · refine Mm.o_newH mvT H (fun W h => h) rfl rfl rfl ?_
                            clear H
                            intro b21 _ H nw
                            have hb := nw.below
                            have hgu := hidp (show ∀ B o n c, v2 = Value.slice (some ⟨B, o, none⟩) n c → B ≠ b21 from fun B o n c h => Nat.ne_of_lt (Nat.lt_of_lt_of_le (HUr.out.ltB B o n c h) nw.le))
                            replace HUr := hidp (HUr.out.to hb); clear hb nw
                            simp only [Act.put, List.getElem_toArray, List.getElem_cons_zero, List.getElem_cons_succ, List.setIfInBounds_toArray, List.set_cons_zero, List.set_cons_succ]
                            refine Mm.o_callH (v := .int .i64 ob) H (fun W h => h.tail) rfl rfl 14 (#[.agg #[.int .i64 l2.a, .int .i64 l2.s, .int .i64 l2.i, .int .i64 l2.k, .int .i64 l2.b, .int .i64 l2.r, v2], .string b]) (by go_simp; first | done | rfl) (co2b.out _ HUr.out) ?_
                            clear H
                            intro _ H hb
                            replace HUr := hidp (HUr.out.to hb); clear hb
                            simp only [Act.put, List.getElem_toArray, List.getElem_cons_zero, List.getElem_cons_succ, List.setIfInBounds_toArray, List.set_cons_zero, List.set_cons_succ]
                            apply s_val
                            case ho => rfl
                            case hw => rfl
                            case hv => intro w hw; go_simp; first | done | with_reducible rfl | rfl
                            simp only [Act.put, List.getElem_toArray, List.getElem_cons_zero, List.getElem_cons_succ, List.setIfInBounds_toArray, List.set_cons_zero, List.set_cons_succ]
                            apply s_val (v := .agg #[.string (⟨#[112, 117, 98, 108, 105, 99]⟩ : ByteArray), .string (⟨#[106, 111, 105, 110]⟩ : ByteArray), .string (⟨#[106, 111, 105, 110]⟩ : ByteArray), .string (⟨#[98, 97, 110]⟩ : ByteArray), .bool false, .bool false, .bool DK, .bool DB, .bool true])
                            case ho => rfl
                            case hw => rfl
                            case hv => intro w hw; go_simp; first | done | with_reducible rfl | rfl
                            simp only [Act.put, List.getElem_toArray, List.getElem_cons_zero, List.getElem_cons_succ, List.setIfInBounds_toArray, List.set_cons_zero, List.set_cons_succ]
                            refine Mm.oput0 mvT H [.string (⟨#[112, 117, 98, 108, 105, 99]⟩ : ByteArray), .string (⟨#[106, 111, 105, 110]⟩ : ByteArray), .string (⟨#[106, 111, 105, 110]⟩ : ByteArray), .string (⟨#[98, 97, 110]⟩ : ByteArray), .bool false, .bool false, .bool DK, .bool DB, .bool true] (fun W h => h.tail) rfl rfl (.tmp 21) (.tmp 132) rfl rfl rfl rfl (by simp [Value.oneCell']) rfl ?_
                            intro _ H2 st
                            replace HUr := hidp (HUr.out.stpN st hgu.out); clear st H
                            have H := H2
                            clear H2
                            simp only [Act.put, List.getElem_toArray, List.getElem_cons_zero, List.getElem_cons_succ, List.setIfInBounds_toArray, List.set_cons_zero, List.set_cons_succ]
                            refine NoPanic.normal ?_
                            go_wp2_with (first | (refine Mm.skipd 147 rfl _ _ rfl rfl ?_) | (refine Mm.skipd 148 rfl _ _ rfl rfl ?_) | (refine Mm.skipd 149 rfl _ _ rfl rfl ?_) | (refine Mm.skipd 150 rfl _ _ rfl rfl ?_) | (refine Mm.skipd 151 rfl _ _ rfl rfl ?_) | (refine Mm.get0 mvT H rfl (.tmp 21) rfl rfl rfl ?_) | (go_at_call 15; refine (ca1.out _).mono ?_; rintro e _ ⟨rfl, hb⟩; replace H := hidp (H.out.call hb); clear ca1; replace HUr := hidp (HUr.out.to hb); clear hb) | (refine Mm.putF0 H rfl 9 (.tmp 136) (.const (.string (⟨#[108, 101, 97, 118, 101]⟩ : ByteArray))) 3 (.string (⟨#[108, 101, 97, 118, 101]⟩ : ByteArray)) rfl rfl rfl (by kernel_rfl) rfl (of_decide_eq_true rfl) ?_; intro _ H2 st; replace HUr := hidp (HUr.out.stpN st hgu.out) ; clear st H; have H : Hid (Mm.M w.heap.size w _ ([⟨b21, 48, [.string (⟨#[112, 117, 98, 108, 105, 99]⟩ : ByteArray), .string (⟨#[106, 111, 105, 110]⟩ : ByteArray), .string (⟨#[106, 111, 105, 110]⟩ : ByteArray), .string (⟨#[108, 101, 97, 118, 101]⟩ : ByteArray), .bool false, .bool false, .bool DK, .bool DB, .bool true]⟩, ⟨b11, 40, [.int .i64 l2.a, .int .i64 l2.s, .int .i64 l2.i, .int .i64 l2.k, .int .i64 l2.b, .int .i64 l2.r, v2]⟩])) := H2; clear H2) | (refine Mm.get0 mvT H rfl (.tmp 21) rfl rfl rfl ?_) | (go_at_call 15; refine (ca2.out _).mono ?_; rintro e _ ⟨rfl, hb⟩; replace H := hidp (H.out.call hb); clear ca2; replace HUr := hidp (HUr.out.to hb); clear hb) | (refine Mm.get1 tyL H rfl (.tmp 11) rfl rfl rfl ?_) | (go_at_call 14; refine (co2c.out _ HUr.out).mono ?_; rintro e _ ⟨rfl, hb⟩; replace H := hidp (H.out.call hb); replace HUr := hidp (HUr.out.to hb); clear hb))
                            go_ret
                            exact ⟨rfl, H.out.below⟩
                  · have d4 : decide ((s.size : Int) > 4096) = false := by simp; omega
                    have n4 : ¬ (4096 : Int) < (s.size : Int) := by omega
                    clear q4
                    obtain ⟨BU, oU, rfl, hcu⟩ := HCU.out i (by rw [HNU.out]; exact q3)
                    obtain ⟨u, hu⟩ : ∃ s, us[i]'(by rw [HNU.out]; exact q3) = s := ⟨_, rfl⟩
                    rw [hu] at hcu
                    have HCI := hidp hcu
                    have hBU := hidp (show BU < w.heap.size from by have := World.block_lt_of_cell? w _ hcu; simpa using this)
                    clear hcu hu
                    have cq := hidp (fun W h => lvParse_any W s hss h)
                    cases hp : psL s with
                    | none =>
                      rw [show psX s = 6 from by unfold psX; rw [hp]; rfl] at cq
                      obtain ⟨L3, hL3⟩ : ∃ z, psV s = z := ⟨_, rfl⟩
                      rw [hL3] at cq
                      clear hp hL3
                      go_wp2_with (first | (refine Rt.wpL_skip _ _ rfl rfl ?_) | (go_at_call 12; refine (cq.out _ (HP.out.below H.out.below (Nat.le_refl _))).mono ?_; rintro e _ ⟨v3, rfl, hu, hb⟩; obtain ⟨a3, c3, rfl⟩ := hu.form; replace H := hidp (H.out.call hb); replace HUr := hidp (HUr.out.to hb); have HU3 := hidp hu; clear hu hb cq) | (refine Mm.new tyL H (some 18) rfl rfl rfl ?_; clear H; intro b18 _ H nw; have hb := nw.below; replace HUr := hidp (HUr.out.to hb); replace HU3 := hidp (HU3.out.to hb); clear hb nw) | (refine Mm.put0 tyL H rfl (.tmp 18) (.tmp 88) [.int .i64 L3.a, .int .i64 L3.s, .int .i64 L3.i, .int .i64 L3.k, .int .i64 L3.b, .int .i64 L3.r, .slice a3 L3.us.length c3] rfl rfl rfl rfl (by simp [Value.oneCell']) rfl ?_; intro _ H2 st; replace HUr := hidp (HUr.out.stp st H.out.at0 (by simp [zL])); replace HU3 := hidp (HU3.out.stp st H.out.at0 (by simp [zL])); clear st H; have H := H2; clear H2))
                      refine Mm.region H (.take 0 (.take 1 (.take 2 (.take 3 (.take 4 (.take 5 (.take 6 (.take 7 (.take 8 (.take 9 (.take 10 (.take 11 .done)))))))))))) (by kernel_rfl) (by kernel_rfl) (by simp [Scr.depth]) (by kernel_rfl) ?_
                      clear H
                      intro _ H hb
                      replace HUr := hidp (HUr.out.to hb); replace HU3 := hidp (HU3.out.to hb); clear hb
                      apply s_val
                      case ho => rfl
                      case hw => rfl
                      case hv => intro w hw; go_simp; first | done | with_reducible rfl | rfl
                      simp only [Act.put, List.getElem_toArray, List.getElem_cons_zero, List.getElem_cons_succ, List.setIfInBounds_toArray, List.set_cons_zero, List.set_cons_succ]
                      apply s_val (v := .bool false)
                      case ho => rfl
                      case hw => rfl
                      case hv => intro w hw; go_simp; first | done | with_reducible rfl | rfl
                      simp only [Act.put, List.getElem_toArray, List.getElem_cons_zero, List.getElem_cons_succ, List.setIfInBounds_toArray, List.set_cons_zero, List.set_cons_succ]
                      apply s_val
                      case ho => rfl
                      case hw => rfl
                      case hv => intro w hw; go_simp; first | done | with_reducible rfl | rfl
                      simp only [Act.put, List.getElem_toArray, List.getElem_cons_zero, List.getElem_cons_succ, List.setIfInBounds_toArray, List.set_cons_zero, List.set_cons_succ]
                      refine Rt.s_skip rfl rfl ?_
                      simp only [Act.put, List.getElem_toArray, List.getElem_cons_zero, List.getElem_cons_succ, List.setIfInBounds_toArray, List.set_cons_zero, List.set_cons_succ]
                      refine Rt.s_skip rfl rfl ?_
                      simp only [Act.put, List.getElem_toArray, List.getElem_cons_zero, List.getElem_cons_succ, List.setIfInBounds_toArray, List.set_cons_zero, List.set_cons_succ]
                      refine Rt.s_skip rfl rfl ?_
                      simp only [Act.put, List.getElem_toArray, List.getElem_cons_zero, List.getElem_cons_succ, List.setIfInBounds_toArray, List.set_cons_zero, List.set_cons_succ]
                      refine Rt.s_skip rfl rfl ?_
                      simp only [Act.put, List.getElem_toArray, List.getElem_cons_zero, List.getElem_cons_succ, List.setIfInBounds_toArray, List.set_cons_zero, List.set_cons_succ]
                      refine Rt.s_skip rfl rfl ?_
                      simp only [Act.put, List.getElem_toArray, List.getElem_cons_zero, List.getElem_cons_succ, List.setIfInBounds_toArray, List.set_cons_zero, List.set_cons_succ]
                      refine Rt.s_skip rfl rfl ?_
                      simp only [Act.put, List.getElem_toArray, List.getElem_cons_zero, List.getElem_cons_succ, List.setIfInBounds_toArray, List.set_cons_zero, List.set_cons_succ]
                      refine Rt.s_skip rfl rfl ?_
                      simp only [Act.put, List.getElem_toArray, List.getElem_cons_zero, List.getElem_cons_succ, List.setIfInBounds_toArray, List.set_cons_zero, List.set_cons_succ]
                      refine Rt.s_skip rfl rfl ?_
                      simp only [Act.put, List.getElem_toArray, List.getElem_cons_zero, List.getElem_cons_succ, List.setIfInBounds_toArray, List.set_cons_zero, List.set_cons_succ]
                      apply s_val
                      case ho => rfl
                      case hw => rfl
                      case hv => intro w hw; go_simp; first | done | with_reducible rfl | rfl
                      simp only [Act.put, List.getElem_toArray, List.getElem_cons_zero, List.getElem_cons_succ, List.setIfInBounds_toArray, List.set_cons_zero, List.set_cons_succ]
                      refine NoPanic.normal ?_
                      go_wp2_with fail
                      exact ⟨⟨i + 1, l2, v2, by go_num, by omega, HM2.out, H.out.tail, HUr.out⟩, by simp [intOf]; omega⟩
                    | some m3 =>
                      rw [show psX s = 0 from by unfold psX; rw [hp]; rfl, show psV s = m3 from by unfold psV; rw [hp]; rfl] at cq
                      clear hp
                      have cc := hidp (fun W v3 h1 h2 h3 => change_any W l2 m3 v2 v3 u h1 h2 h3)
                      by_cases hch : chE l2 m3 u = 0
                      · rw [hch] at cc
                        have HM3 := hidp (keep_most hch HM2.out)
                        obtain ⟨X, hX⟩ : ∃ X : Int, X = 0 := ⟨_, rfl⟩
                        clear hch
                        go_wp2_with (first | (refine Rt.wpL_skip _ _ rfl rfl ?_) | (go_at_call 12; refine (cq.out _ (HP.out.below H.out.below (Nat.le_refl _))).mono ?_; rintro e _ ⟨v3, rfl, hu, hb⟩; obtain ⟨a3, c3, rfl⟩ := hu.form; replace H := hidp (H.out.call hb); replace HUr := hidp (HUr.out.to hb); have HU3 := hidp hu; clear hu hb cq) | (refine Mm.new tyL H (some 18) rfl rfl rfl ?_; clear H; intro b18 _ H nw; have hb := nw.below; replace HUr := hidp (HUr.out.to hb); replace HU3 := hidp (HU3.out.to hb); clear hb nw) | (refine Mm.put0 tyL H rfl (.tmp 18) (.tmp 88) [.int .i64 m3.a, .int .i64 m3.s, .int .i64 m3.i, .int .i64 m3.k, .int .i64 m3.b, .int .i64 m3.r, .slice a3 m3.us.length c3] rfl rfl rfl rfl (by simp [Value.oneCell']) rfl ?_; intro _ H2 st; replace HUr := hidp (HUr.out.stp st H.out.at0 (by simp [zL])); replace HU3 := hidp (HU3.out.stp st H.out.at0 (by simp [zL])); clear st H; have H := H2; clear H2))
                        refine Mm.region H (.take 0 (.take 1 (.take 2 (.take 3 (.take 4 (.take 5 (.take 6 (.take 7 (.take 8 (.one 9 (.take 10 (.take 11 .done)))))))))))) (by kernel_rfl) (by kernel_rfl) (by simp [Scr.depth]) (by kernel_rfl) ?_
                        clear H
                        intro _ H hb
                        replace HUr := hidp (HUr.out.to hb); replace HU3 := hidp (HU3.out.to hb); clear hb
                        apply s_val
                        case ho => rfl
                        case hw => rfl
                        case hv => intro w hw; go_simp; first | done | with_reducible rfl | rfl
                        simp only [Act.put, List.getElem_toArray, List.getElem_cons_zero, List.getElem_cons_succ, List.setIfInBounds_toArray, List.set_cons_zero, List.set_cons_succ]
                        apply s_val (v := .bool true)
                        case ho => rfl
                        case hw => rfl
                        case hv => intro w hw; go_simp; first | done | with_reducible rfl | rfl
                        simp only [Act.put, List.getElem_toArray, List.getElem_cons_zero, List.getElem_cons_succ, List.setIfInBounds_toArray, List.set_cons_zero, List.set_cons_succ]
                        apply s_val
                        case ho => rfl
                        case hw => rfl
                        case hv => intro w hw; go_simp; first | done | with_reducible rfl | rfl
                        simp only [Act.put, List.getElem_toArray, List.getElem_cons_zero, List.getElem_cons_succ, List.setIfInBounds_toArray, List.set_cons_zero, List.set_cons_succ]
                        refine Mm.sget1 tyL (fun w h => h) rfl rfl (.tmp 11) rfl rfl rfl ?_
                        simp only [Act.put, List.getElem_toArray, List.getElem_cons_zero, List.getElem_cons_succ, List.setIfInBounds_toArray, List.set_cons_zero, List.set_cons_succ]
                        refine Mm.sget0 tyL (fun w h => h) rfl rfl (.tmp 18) rfl rfl rfl ?_
                        simp only [Act.put, List.getElem_toArray, List.getElem_cons_zero, List.getElem_cons_succ, List.setIfInBounds_toArray, List.set_cons_zero, List.set_cons_succ]
                        apply s_val
                        case ho => rfl
                        case hw => rfl
                        case hv => intro w hw; go_simp; first | done | with_reducible rfl | rfl
                        simp only [Act.put, List.getElem_toArray, List.getElem_cons_zero, List.getElem_cons_succ, List.setIfInBounds_toArray, List.set_cons_zero, List.set_cons_succ]
                        apply s_val
                        case ho => rfl
                        case hw => rfl
                        case hv => intro w hw; go_simp; first | done | with_reducible rfl | rfl
                        simp only [Act.put, List.getElem_toArray, List.getElem_cons_zero, List.getElem_cons_succ, List.setIfInBounds_toArray, List.set_cons_zero, List.set_cons_succ]
                        apply s_val
                        case ho => rfl
                        case hw => rfl
                        case hv => intro w hw; go_simp; first | done | with_reducible rfl | rfl
                        simp only [Act.put, List.getElem_toArray, List.getElem_cons_zero, List.getElem_cons_succ, List.setIfInBounds_toArray, List.set_cons_zero, List.set_cons_succ]
                        apply s_val (v := .string u)
                        case ho => rfl
                        case hw => rfl
                        case hv => intro w hw; have q := (hw.below.cell (p := ⟨BU, oU + i, none⟩) hBU.out).trans HCI.out; go_simp; first | done | with_reducible rfl | rfl
                        simp only [Act.put, List.getElem_toArray, List.getElem_cons_zero, List.getElem_cons_succ, List.setIfInBounds_toArray, List.set_cons_zero, List.set_cons_succ]
                        refine Mm.o_callH (v := .int .i64 0) H (fun W h => h) rfl rfl 13 (#[.agg #[.int .i64 l2.a, .int .i64 l2.s, .int .i64 l2.i, .int .i64 l2.k, .int .i64 l2.b, .int .i64 l2.r, v2], .agg #[.int .i64 m3.a, .int .i64 m3.s, .int .i64 m3.i, .int .i64 m3.k, .int .i64 m3.b, .int .i64 m3.r, .slice a3 m3.us.length c3], .string u]) (by go_simp; first | done | rfl) (cc.out _ _ HUr.out HU3.out (HP.out.below H.out.below (Nat.le_refl _))) ?_
                        clear H
                        intro _ H hb
                        replace HUr := hidp (HUr.out.to hb); replace HU3 := hidp (HU3.out.to hb); clear hb
                        simp only [Act.put, List.getElem_toArray, List.getElem_cons_zero, List.getElem_cons_succ, List.setIfInBounds_toArray, List.set_cons_zero, List.set_cons_succ]
                        apply s_val (v := .bool true)
                        case ho => rfl
                        case hw => rfl
                        case hv => intro w hw; go_simp; first | done | with_reducible rfl | rfl
                        simp only [Act.put, List.getElem_toArray, List.getElem_cons_zero, List.getElem_cons_succ, List.setIfInBounds_toArray, List.set_cons_zero, List.set_cons_succ]
                        apply s_val
                        case ho => rfl
                        case hw => rfl
                        case hv => intro w hw; go_simp; first | done | with_reducible rfl | rfl
                        simp only [Act.put, List.getElem_toArray, List.getElem_cons_zero, List.getElem_cons_succ, List.setIfInBounds_toArray, List.set_cons_zero, List.set_cons_succ]
                        refine NoPanic.normal ?_
                        go_wp2_with (first | (refine Mm.get0 tyL H rfl (.tmp 18) rfl rfl rfl ?_) | (refine Mm.put1 tyL H rfl (.tmp 11) (.tmp 102) [.int .i64 m3.a, .int .i64 m3.s, .int .i64 m3.i, .int .i64 m3.k, .int .i64 m3.b, .int .i64 m3.r, .slice a3 m3.us.length c3] rfl rfl rfl rfl (by simp [Value.oneCell']) rfl ?_; intro _ H2 st; replace HU3 := hidp (HU3.out.stp st H.out.at1 (lv_nostr2 HUr.out.form)); clear st H; have H := H2; clear H2))
                        exact ⟨⟨i + 1, m3, _, by go_num, by omega, HM3.out, H.out.tail, HU3.out⟩, by simp [intOf]; omega⟩
                      · obtain ⟨X, hX⟩ : ∃ X, chE l2 m3 u = X := ⟨_, rfl⟩
                        rw [hX] at cc hch
                        have hX0 : (X == 0) = false := by simpa using hch
                        clear hX hch
                        go_wp2_with (first | (refine Rt.wpL_skip _ _ rfl rfl ?_) | (go_at_call 12; refine (cq.out _ (HP.out.below H.out.below (Nat.le_refl _))).mono ?_; rintro e _ ⟨v3, rfl, hu, hb⟩; obtain ⟨a3, c3, rfl⟩ := hu.form; replace H := hidp (H.out.call hb); replace HUr := hidp (HUr.out.to hb); have HU3 := hidp hu; clear hu hb cq) | (refine Mm.new tyL H (some 18) rfl rfl rfl ?_; clear H; intro b18 _ H nw; have hb := nw.below; replace HUr := hidp (HUr.out.to hb); replace HU3 := hidp (HU3.out.to hb); clear hb nw) | (refine Mm.put0 tyL H rfl (.tmp 18) (.tmp 88) [.int .i64 m3.a, .int .i64 m3.s, .int .i64 m3.i, .int .i64 m3.k, .int .i64 m3.b, .int .i64 m3.r, .slice a3 m3.us.length c3] rfl rfl rfl rfl (by simp [Value.oneCell']) rfl ?_; intro _ H2 st; replace HUr := hidp (HUr.out.stp st H.out.at0 (by simp [zL])); replace HU3 := hidp (HU3.out.stp st H.out.at0 (by simp [zL])); clear st H; have H := H2; clear H2))
                        refine Mm.region H (.take 0 (.take 1 (.take 2 (.take 3 (.take 4 (.take 5 (.take 6 (.take 7 (.take 8 (.one 9 (.take 10 (.take 11 .done)))))))))))) (by kernel_rfl) (by kernel_rfl) (by simp [Scr.depth]) (by kernel_rfl) ?_
                        clear H
                        intro _ H hb
                        replace HUr := hidp (HUr.out.to hb); replace HU3 := hidp (HU3.out.to hb); clear hb
                        apply s_val
                        case ho => rfl
                        case hw => rfl
                        case hv => intro w hw; go_simp; first | done | with_reducible rfl | rfl
                        simp only [Act.put, List.getElem_toArray, List.getElem_cons_zero, List.getElem_cons_succ, List.setIfInBounds_toArray, List.set_cons_zero, List.set_cons_succ]
                        apply s_val (v := .bool true)
                        case ho => rfl
                        case hw => rfl
                        case hv => intro w hw; go_simp; first | done | with_reducible rfl | rfl
                        simp only [Act.put, List.getElem_toArray, List.getElem_cons_zero, List.getElem_cons_succ, List.setIfInBounds_toArray, List.set_cons_zero, List.set_cons_succ]
                        apply s_val
                        case ho => rfl
                        case hw => rfl
                        case hv => intro w hw; go_simp; first | done | with_reducible rfl | rfl
                        simp only [Act.put, List.getElem_toArray, List.getElem_cons_zero, List.getElem_cons_succ, List.setIfInBounds_toArray, List.set_cons_zero, List.set_cons_succ]
                        refine Mm.sget1 tyL (fun w h => h) rfl rfl (.tmp 11) rfl rfl rfl ?_
                        simp only [Act.put, List.getElem_toArray, List.getElem_cons_zero, List.getElem_cons_succ, List.setIfInBounds_toArray, List.set_cons_zero, List.set_cons_succ]
                        refine Mm.sget0 tyL (fun w h => h) rfl rfl (.tmp 18) rfl rfl rfl ?_
                        simp only [Act.put, List.getElem_toArray, List.getElem_cons_zero, List.getElem_cons_succ, List.setIfInBounds_toArray, List.set_cons_zero, List.set_cons_succ]
                        apply s_val
                        case ho => rfl
                        case hw => rfl
                        case hv => intro w hw; go_simp; first | done | with_reducible rfl | rfl
                        simp only [Act.put, List.getElem_toArray, List.getElem_cons_zero, List.getElem_cons_succ, List.setIfInBounds_toArray, List.set_cons_zero, List.set_cons_succ]
                        apply s_val
                        case ho => rfl
                        case hw => rfl
                        case hv => intro w hw; go_simp; first | done | with_reducible rfl | rfl
                        simp only [Act.put, List.getElem_toArray, List.getElem_cons_zero, List.getElem_cons_succ, List.setIfInBounds_toArray, List.set_cons_zero, List.set_cons_succ]
                        apply s_val
                        case ho => rfl
                        case hw => rfl
                        case hv => intro w hw; go_simp; first | done | with_reducible rfl | rfl
                        simp only [Act.put, List.getElem_toArray, List.getElem_cons_zero, List.getElem_cons_succ, List.setIfInBounds_toArray, List.set_cons_zero, List.set_cons_succ]
                        apply s_val (v := .string u)
                        case ho => rfl
                        case hw => rfl
                        case hv => intro w hw; have q := (hw.below.cell (p := ⟨BU, oU + i, none⟩) hBU.out).trans HCI.out; go_simp; first | done | with_reducible rfl | rfl
                        simp only [Act.put, List.getElem_toArray, List.getElem_cons_zero, List.getElem_cons_succ, List.setIfInBounds_toArray, List.set_cons_zero, List.set_cons_succ]
                        refine Mm.o_callH (v := .int .i64 X) H (fun W h => h) rfl rfl 13 (#[.agg #[.int .i64 l2.a, .int .i64 l2.s, .int .i64 l2.i, .int .i64 l2.k, .int .i64 l2.b, .int .i64 l2.r, v2], .agg #[.int .i64 m3.a, .int .i64 m3.s, .int .i64 m3.i, .int .i64 m3.k, .int .i64 m3.b, .int .i64 m3.r, .slice a3 m3.us.length c3], .string u]) (by go_simp; first | done | rfl) (cc.out _ _ HUr.out HU3.out (HP.out.below H.out.below (Nat.le_refl _))) ?_
                        clear H
                        intro _ H hb
                        replace HUr := hidp (HUr.out.to hb); replace HU3 := hidp (HU3.out.to hb); clear hb
                        simp only [Act.put, List.getElem_toArray, List.getElem_cons_zero, List.getElem_cons_succ, List.setIfInBounds_toArray, List.set_cons_zero, List.set_cons_succ]
                        apply s_val (v := .bool false)
                        case ho => rfl
                        case hw => rfl
                        case hv => intro w hw; go_simp; first | done | with_reducible rfl | rfl
                        simp only [Act.put, List.getElem_toArray, List.getElem_cons_zero, List.getElem_cons_succ, List.setIfInBounds_toArray, List.set_cons_zero, List.set_cons_succ]
                        apply s_val
                        case ho => rfl
                        case hw => rfl
                        case hv => intro w hw; go_simp; first | done | with_reducible rfl | rfl
                        simp only [Act.put, List.getElem_toArray, List.getElem_cons_zero, List.getElem_cons_succ, List.setIfInBounds_toArray, List.set_cons_zero, List.set_cons_succ]
                        refine NoPanic.normal ?_
                        go_wp2_with fail
                        exact ⟨⟨i + 1, l2, v2, by go_num, by omega, HM2.out, H.out.tail, HUr.out⟩, by simp [intOf]; omega⟩
                · have d3 : decide ((i : Int) ≥ (nu : Int)) = true := by simp; omega
                  have n3 : (nu : Int) ≤ (i : Int) := by omega
                  have co1 := hidp (fun W h => of_any W l2 v2 a h); have co2 := hidp (fun W h => of_any W l2 v2 b h)
                  have ka := HM2.out a; have kb := HM2.out b
                  obtain ⟨oa, hoa⟩ : ∃ z, ofL l2 a = z := ⟨_, rfl⟩
                  obtain ⟨ob, hob⟩ : ∃ z, ofL l2 b = z := ⟨_, rfl⟩
                  rw [hoa] at co1 ka; rw [hob] at co2 kb
                  clear hoa hob
                  have co1b := co1; have co2b := co2; have co2c := co2
                  have d5 : decide (oa > m) = false := by simp; omega
                  have n5 : ¬ m < oa := by omega
                  have d6 : decide (ob > m) = false := by simp; omega
                  have n6 : ¬ m < ob := by omega
                  obtain ⟨DK, hDK⟩ : ∃ D, decide (l2.k ≤ oa) = D := ⟨_, rfl⟩
                  have hDK2 : decide (oa ≥ l2.k) = DK := hDK
                  obtain ⟨DB, hDB⟩ : ∃ D, decide (l2.b ≤ oa) = D := ⟨_, rfl⟩
                  have hDB2 : decide (oa ≥ l2.b) = DB := hDB
                  obtain ⟨AB, hAB⟩ : ∃ D, decide (ob < oa) = D := ⟨_, rfl⟩
                  have hAB2 : decide (oa > ob) = AB := hAB
                  have HHAB := hidp hAB
                  clear ka kb
                  have x1 := al_ab (⟨#[98, 97, 110]⟩ : ByteArray) (.inl rfl) DK DB; have x2 := al_ab (⟨#[108, 101, 97, 118, 101]⟩ : ByteArray) (.inr rfl) DK DB
                  have ca1 := hidp (fun W => allowed_any W (⟨#[112, 117, 98, 108, 105, 99]⟩ : ByteArray) (⟨#[106, 111, 105, 110]⟩ : ByteArray) (⟨#[106, 111, 105, 110]⟩ : ByteArray) (⟨#[98, 97, 110]⟩ : ByteArray) false false DK DB AB); have ca2 := hidp (fun W => allowed_any W (⟨#[112, 117, 98, 108, 105, 99]⟩ : ByteArray) (⟨#[106, 111, 105, 110]⟩ : ByteArray) (⟨#[106, 111, 105, 110]⟩ : ByteArray) (⟨#[108, 101, 97, 118, 101]⟩ : ByteArray) false false DK DB AB)
                  cases AB with
                  | false =>
                    rw [x1] at ca1; rw [x2] at ca2
                    clear x1 x2 HHAB
                    go_wp2_with (first | (refine Mm.skipd 81 rfl _ _ rfl rfl ?_) | (refine Mm.skipd 82 rfl _ _ rfl rfl ?_) | (refine Mm.skipd 83 rfl _ _ rfl rfl ?_) | (refine Mm.get0 tyL H rfl (.tmp 11) rfl rfl rfl ?_) | (go_at_call 14; refine (co1.out _ HUr.out).mono ?_; rintro e _ ⟨rfl, hb⟩; replace H := hidp (H.out.call hb); clear co1; replace HUr := hidp (HUr.out.to hb); clear hb) | (go_at_call 14; refine (co2.out _ HUr.out).mono ?_; rintro e _ ⟨rfl, hb⟩; replace H := hidp (H.out.call hb); clear co2; replace HUr := hidp (HUr.out.to hb); clear hb) | (go_at_call 14; refine (co1b.out _ HUr.out).mono ?_; rintro e _ ⟨rfl, hb⟩; replace H := hidp (H.out.call hb); clear co1b; replace HUr := hidp (HUr.out.to hb); clear hb))
                    refine Mm.region H (.take 0 (.take 1 (.take 2 (.take 3 (.take 4 (.take 5 (.take 6 (.take 7 (.take 8 (.take 9 (.take 10 (.two 11 (.take 12 (.take 13 (.one 14 (.one 15 .done)))) 14 (.one 11 (.take 12 (.take 13 (.one 15 .done)))))))))))))))) (by kernel_rfl) (by kernel_rfl) (by simp [Scr.depth]) (by kernel_rfl) ?_
                    clear H
                    intro _ H hb
                    replace HUr := hidp (HUr.out.to hb); clear hb
                    apply s_val
                    case ho => rfl
                    case hw => rfl
                    case hv => intro w hw; go_simp; first | done | with_reducible rfl | rfl
                    simp only [Act.put, List.getElem_toArray, List.getElem_cons_zero, List.getElem_cons_succ, List.setIfInBounds_toArray, List.set_cons_zero, List.set_cons_succ]
                    apply s_val
                    case ho => rfl
                    case hw => rfl
                    case hv => intro w hw; go_simp; first | done | with_reducible rfl | rfl
                    simp only [Act.put, List.getElem_toArray, List.getElem_cons_zero, List.getElem_cons_succ, List.setIfInBounds_toArray, List.set_cons_zero, List.set_cons_succ]
                    refine Mm.sld0 naI (fun w h => h) rfl rfl (.tmp 120) 4 (.int .i64 l2.b) rfl rfl rfl ?_
                    simp only [Act.put, List.getElem_toArray, List.getElem_cons_zero, List.getElem_cons_succ, List.setIfInBounds_toArray, List.set_cons_zero, List.set_cons_succ]
                    apply s_val
                    case ho => rfl
                    case hw => rfl
                    case hv => intro w hw; go_simp; first | done | with_reducible rfl | rfl
                    simp only [Act.put, List.getElem_toArray, List.getElem_cons_zero, List.getElem_cons_succ, List.setIfInBounds_toArray, List.set_cons_zero, List.set_cons_succ]
                    apply s_val
                    case ho => rfl
                    case hw => rfl
                    case hv => intro w hw; go_simp; first | done | with_reducible rfl | rfl
                    simp only [Act.put, List.getElem_toArray, List.getElem_cons_zero, List.getElem_cons_succ, List.setIfInBounds_toArray, List.set_cons_zero, List.set_cons_succ]
                    apply s_val
                    case ho => rfl
                    case hw => rfl
                    case hv => intro w hw; go_simp; first | done | with_reducible rfl | rfl
                    simp only [Act.put, List.getElem_toArray, List.getElem_cons_zero, List.getElem_cons_succ, List.setIfInBounds_toArray, List.set_cons_zero, List.set_cons_succ]
                    refine Mm.sld0 naI (fun w h => h) rfl rfl (.tmp 124) 3 (.int .i64 l2.k) rfl rfl rfl ?_
                    simp only [Act.put, List.getElem_toArray, List.getElem_cons_zero, List.getElem_cons_succ, List.setIfInBounds_toArray, List.set_cons_zero, List.set_cons_succ]
                    apply s_val
                    case ho => rfl
                    case hw => rfl
                    case hv => intro w hw; go_simp; first | done | with_reducible rfl | rfl
                    simp only [Act.put, List.getElem_toArray, List.getElem_cons_zero, List.getElem_cons_succ, List.setIfInBounds_toArray, List.set_cons_zero, List.set_cons_succ]
                    apply s_val
                    case ho => rfl
                    case hw => rfl
                    case hv => intro w hw; go_simp; first | done | with_reducible rfl | rfl
                    simp only [Act.put, List.getElem_toArray, List.getElem_cons_zero, List.getElem_cons_succ, List.setIfInBounds_toArray, List.set_cons_zero, List.set_cons_succ]
                    refine Mm.sget0 tyL (fun w h => h) rfl rfl (.tmp 11) rfl rfl rfl ?_
                    simp only [Act.put, List.getElem_toArray, List.getElem_cons_zero, List.getElem_cons_succ, List.setIfInBounds_toArray, List.set_cons_zero, List.set_cons_succ]
                    apply s_val
                    case ho => rfl
                    case hw => rfl
                    case hv => intro w hw; go_simp; first | done | with_reducible rfl | rfl
                    simp only [Act.put, List.getElem_toArray, List.getElem_cons_zero, List.getElem_cons_succ, List.setIfInBounds_toArray, List.set_cons_zero, List.set_cons_succ]
                    refine ⟨?_, ?_⟩
                    · refine Mm.o_callH (v := .int .i64 ob) H (fun W h => h) rfl rfl 14 (#[.agg #[.int .i64 l2.a, .int .i64 l2.s, .int .i64 l2.i, .int .i64 l2.k, .int .i64 l2.b, .int .i64 l2.r, v2], .string b]) (by go_simp; first | done | rfl) (co2b.out _ HUr.out) ?_
                      clear H
                      intro _ H hb
                      replace HUr := hidp (HUr.out.to hb); clear hb
                      simp only [Act.put, List.getElem_toArray, List.getElem_cons_zero, List.getElem_cons_succ, List.setIfInBounds_toArray, List.set_cons_zero, List.set_cons_succ]
                      apply s_val
                      case ho => rfl
                      case hw => rfl
                      case hv => intro w hw; go_simp; first | done | with_reducible rfl | rfl
                      simp only [Act.put, List.getElem_toArray, List.getElem_cons_zero, List.getElem_cons_succ, List.setIfInBounds_toArray, List.set_cons_zero, List.set_cons_succ]
                      apply s_val (v := .agg #[.string (⟨#[112, 117, 98, 108, 105, 99]⟩ : ByteArray), .string (⟨#[106, 111, 105, 110]⟩ : ByteArray), .string (⟨#[106, 111, 105, 110]⟩ : ByteArray), .string (⟨#[98, 97, 110]⟩ : ByteArray), .bool false, .bool false, .bool DK, .bool DB, .bool false])
                      case ho => rfl
                      case hw => rfl
                      case hv => intro w hw; go_simp; first | done | with_reducible rfl | rfl
                      simp only [Act.put, List.getElem_toArray, List.getElem_cons_zero, List.getElem_cons_succ, List.setIfInBounds_toArray, List.set_cons_zero, List.set_cons_succ]
                      refine Mm.o_newH mvT H (fun W h => h) rfl rfl rfl ?_
                      clear H
                      intro b21 _ H nw
                      have hb := nw.below
                      have hgu := hidp (show ∀ B o n c, v2 = Value.slice (some ⟨B, o, none⟩) n c → B ≠ b21 from fun B o n c h => Nat.ne_of_lt (Nat.lt_of_lt_of_le (HUr.out.ltB B o n c h) nw.le))
                      replace HUr := hidp (HUr.out.to hb); clear hb nw
                      simp only [Act.put, List.getElem_toArray, List.getElem_cons_zero, List.getElem_cons_succ, List.setIfInBounds_toArray, List.set_cons_zero, List.set_cons_succ]
                      refine Mm.oput0 mvT H [.string (⟨#[112, 117, 98, 108, 105, 99]⟩ : ByteArray), .string (⟨#[106, 111, 105, 110]⟩ : ByteArray), .string (⟨#[106, 111, 105, 110]⟩ : ByteArray), .string (⟨#[98, 97, 110]⟩ : ByteArray), .bool false, .bool false, .bool DK, .bool DB, .bool false] (fun W h => h.tail) rfl rfl (.tmp 21) (.tmp 132) rfl rfl rfl rfl (by simp [Value.oneCell']) rfl ?_
                      intro _ H2 st
                      replace HUr := hidp (HUr.out.stpN st hgu.out); clear st H
                      have H := H2
                      clear H2
                      simp only [Act.put, List.getElem_toArray, List.getElem_cons_zero, List.getElem_cons_succ, List.setIfInBounds_toArray, List.set_cons_zero, List.set_cons_succ]
                      refine NoPanic.normal ?_
                      go_wp2_with (first | (refine Mm.skipd 147 rfl _ _ rfl rfl ?_) | (refine Mm.skipd 148 rfl _ _ rfl rfl ?_) | (refine Mm.skipd 149 rfl _ _ rfl rfl ?_) | (refine Mm.skipd 150 rfl _ _ rfl rfl ?_) | (refine Mm.skipd 151 rfl _ _ rfl rfl ?_) | (refine Mm.get0 mvT H rfl (.tmp 21) rfl rfl rfl ?_) | (go_at_call 15; refine (ca1.out _).mono ?_; rintro e _ ⟨rfl, hb⟩; replace H := hidp (H.out.call hb); clear ca1; replace HUr := hidp (HUr.out.to hb); clear hb) | (refine Mm.putF0 H rfl 9 (.tmp 136) (.const (.string (⟨#[108, 101, 97, 118, 101]⟩ : ByteArray))) 3 (.string (⟨#[108, 101, 97, 118, 101]⟩ : ByteArray)) rfl rfl rfl (by kernel_rfl) rfl (of_decide_eq_true rfl) ?_; intro _ H2 st; replace HUr := hidp (HUr.out.stpN st hgu.out) ; clear st H; have H : Hid (Mm.M w.heap.size w _ ([⟨b21, 48, [.string (⟨#[112, 117, 98, 108, 105, 99]⟩ : ByteArray), .string (⟨#[106, 111, 105, 110]⟩ : ByteArray), .string (⟨#[106, 111, 105, 110]⟩ : ByteArray), .string (⟨#[108, 101, 97, 118, 101]⟩ : ByteArray), .bool false, .bool false, .bool DK, .bool DB, .bool false]⟩, ⟨b11, 40, [.int .i64 l2.a, .int .i64 l2.s, .int .i64 l2.i, .int .i64 l2.k, .int .i64 l2.b, .int .i64 l2.r, v2]⟩])) := H2; clear H2) | (refine Mm.get0 mvT H rfl (.tmp 21) rfl rfl rfl ?_) | (go_at_call 15; refine (ca2.out _).mono ?_; rintro e _ ⟨rfl, hb⟩; replace H := hidp (H.out.call hb); clear ca2; replace HUr := hidp (HUr.out.to hb); clear hb) | (refine Mm.get1 tyL H rfl (.tmp 11) rfl rfl rfl ?_) | (go_at_call 14; refine (co2c.out _ HUr.out).mono ?_; rintro e _ ⟨rfl, hb⟩; replace H := hidp (H.out.call hb); replace HUr := hidp (HUr.out.to hb); clear hb))
                      go_ret
                      exact ⟨rfl, H.out.below⟩
                    · refine Mm.o_newH mvT H (fun W h => h) rfl rfl rfl ?_
                      clear H
                      intro b21 _ H nw
                      have hb := nw.below
                      have hgu := hidp (show ∀ B o n c, v2 = Value.slice (some ⟨B, o, none⟩) n c → B ≠ b21 from fun B o n c h => Nat.ne_of_lt (Nat.lt_of_lt_of_le (HUr.out.ltB B o n c h) nw.le))
                      replace HUr := hidp (HUr.out.to hb); clear hb nw
                      simp only [Act.put, List.getElem_toArray, List.getElem_cons_zero, List.getElem_cons_succ, List.setIfInBounds_toArray, List.set_cons_zero, List.set_cons_succ]
                      refine Mm.o_callH (v := .int .i64 ob) H (fun W h => h.tail) rfl rfl 14 (#[.agg #[.int .i64 l2.a, .int .i64 l2.s, .int .i64 l2.i, .int .i64 l2.k, .int .i64 l2.b, .int .i64 l2.r, v2], .string b]) (by go_simp; first | done | rfl) (co2b.out _ HUr.out) ?_
                      clear H
                      intro _ H hb
                      replace HUr := hidp (HUr.out.to hb); clear hb
                      simp only [Act.put, List.getElem_toArray, List.getElem_cons_zero, List.getElem_cons_succ, List.setIfInBounds_toArray, List.set_cons_zero, List.set_cons_succ]
                      apply s_val
                      case ho => rfl
                      case hw => rfl
                      case hv => intro w hw; go_simp; first | done | with_reducible rfl | rfl
                      simp only [Act.put, List.getElem_toArray, List.getElem_cons_zero, List.getElem_cons_succ, List.setIfInBounds_toArray, List.set_cons_zero, List.set_cons_succ]
                      apply s_val (v := .agg #[.string (⟨#[112, 117, 98, 108, 105, 99]⟩ : ByteArray), .string (⟨#[106, 111, 105, 110]⟩ : ByteArray), .string (⟨#[106, 111, 105, 110]⟩ : ByteArray), .string (⟨#[98, 97, 110]⟩ : ByteArray), .bool false, .bool false, .bool DK, .bool DB, .bool false])
                      case ho => rfl
                      case hw => rfl
                      case hv => intro w hw; go_simp; first | done | with_reducible rfl | rfl
                      simp only [Act.put, List.getElem_toArray, List.getElem_cons_zero, List.getElem_cons_succ, List.setIfInBounds_toArray, List.set_cons_zero, List.set_cons_succ]
                      refine Mm.oput0 mvT H [.string (⟨#[112, 117, 98, 108, 105, 99]⟩ : ByteArray), .string (⟨#[106, 111, 105, 110]⟩ : ByteArray), .string (⟨#[106, 111, 105, 110]⟩ : ByteArray), .string (⟨#[98, 97, 110]⟩ : ByteArray), .bool false, .bool false, .bool DK, .bool DB, .bool false] (fun W h => h.tail) rfl rfl (.tmp 21) (.tmp 132) rfl rfl rfl rfl (by simp [Value.oneCell']) rfl ?_
                      intro _ H2 st
                      replace HUr := hidp (HUr.out.stpN st hgu.out); clear st H
                      have H := H2
                      clear H2
                      simp only [Act.put, List.getElem_toArray, List.getElem_cons_zero, List.getElem_cons_succ, List.setIfInBounds_toArray, List.set_cons_zero, List.set_cons_succ]
                      refine NoPanic.normal ?_
                      go_wp2_with (first | (refine Mm.skipd 147 rfl _ _ rfl rfl ?_) | (refine Mm.skipd 148 rfl _ _ rfl rfl ?_) | (refine Mm.skipd 149 rfl _ _ rfl rfl ?_) | (refine Mm.skipd 150 rfl _ _ rfl rfl ?_) | (refine Mm.skipd 151 rfl _ _ rfl rfl ?_) | (refine Mm.get0 mvT H rfl (.tmp 21) rfl rfl rfl ?_) | (go_at_call 15; refine (ca1.out _).mono ?_; rintro e _ ⟨rfl, hb⟩; replace H := hidp (H.out.call hb); clear ca1; replace HUr := hidp (HUr.out.to hb); clear hb) | (refine Mm.putF0 H rfl 9 (.tmp 136) (.const (.string (⟨#[108, 101, 97, 118, 101]⟩ : ByteArray))) 3 (.string (⟨#[108, 101, 97, 118, 101]⟩ : ByteArray)) rfl rfl rfl (by kernel_rfl) rfl (of_decide_eq_true rfl) ?_; intro _ H2 st; replace HUr := hidp (HUr.out.stpN st hgu.out) ; clear st H; have H : Hid (Mm.M w.heap.size w _ ([⟨b21, 48, [.string (⟨#[112, 117, 98, 108, 105, 99]⟩ : ByteArray), .string (⟨#[106, 111, 105, 110]⟩ : ByteArray), .string (⟨#[106, 111, 105, 110]⟩ : ByteArray), .string (⟨#[108, 101, 97, 118, 101]⟩ : ByteArray), .bool false, .bool false, .bool DK, .bool DB, .bool false]⟩, ⟨b11, 40, [.int .i64 l2.a, .int .i64 l2.s, .int .i64 l2.i, .int .i64 l2.k, .int .i64 l2.b, .int .i64 l2.r, v2]⟩])) := H2; clear H2) | (refine Mm.get0 mvT H rfl (.tmp 21) rfl rfl rfl ?_) | (go_at_call 15; refine (ca2.out _).mono ?_; rintro e _ ⟨rfl, hb⟩; replace H := hidp (H.out.call hb); clear ca2; replace HUr := hidp (HUr.out.to hb); clear hb) | (refine Mm.get1 tyL H rfl (.tmp 11) rfl rfl rfl ?_) | (go_at_call 14; refine (co2c.out _ HUr.out).mono ?_; rintro e _ ⟨rfl, hb⟩; replace H := hidp (H.out.call hb); replace HUr := hidp (HUr.out.to hb); clear hb))
                      go_ret
                      exact ⟨rfl, H.out.below⟩
                  | true =>
                    clear x1 x2
                    obtain ⟨X1, hX1⟩ : ∃ X, alE (⟨#[112, 117, 98, 108, 105, 99]⟩ : ByteArray) (⟨#[106, 111, 105, 110]⟩ : ByteArray) (⟨#[106, 111, 105, 110]⟩ : ByteArray) (⟨#[98, 97, 110]⟩ : ByteArray) false false DK DB true = X := ⟨_, rfl⟩
                    obtain ⟨X2, hX2⟩ : ∃ X, alE (⟨#[112, 117, 98, 108, 105, 99]⟩ : ByteArray) (⟨#[106, 111, 105, 110]⟩ : ByteArray) (⟨#[106, 111, 105, 110]⟩ : ByteArray) (⟨#[108, 101, 97, 118, 101]⟩ : ByteArray) false false DK DB true = X := ⟨_, rfl⟩
                    rw [hX1] at ca1; rw [hX2] at ca2
                    clear hX1 hX2
                    cases hB1 : (X1 == 0) with
                    | true =>
                      go_wp2_with (first | (refine Mm.skipd 81 rfl _ _ rfl rfl ?_) | (refine Mm.skipd 82 rfl _ _ rfl rfl ?_) | (refine Mm.skipd 83 rfl _ _ rfl rfl ?_) | (refine Mm.get0 tyL H rfl (.tmp 11) rfl rfl rfl ?_) | (go_at_call 14; refine (co1.out _ HUr.out).mono ?_; rintro e _ ⟨rfl, hb⟩; replace H := hidp (H.out.call hb); clear co1; replace HUr := hidp (HUr.out.to hb); clear hb) | (go_at_call 14; refine (co2.out _ HUr.out).mono ?_; rintro e _ ⟨rfl, hb⟩; replace H := hidp (H.out.call hb); clear co2; replace HUr := hidp (HUr.out.to hb); clear hb) | (go_at_call 14; refine (co1b.out _ HUr.out).mono ?_; rintro e _ ⟨rfl, hb⟩; replace H := hidp (H.out.call hb); clear co1b; replace HUr := hidp (HUr.out.to hb); clear hb))
                      refine Mm.region H (.take 0 (.take 1 (.take 2 (.take 3 (.take 4 (.take 5 (.take 6 (.take 7 (.take 8 (.take 9 (.take 10 (.two 11 (.take 12 (.take 13 (.one 14 (.one 15 .done)))) 14 (.one 11 (.take 12 (.take 13 (.one 15 .done)))))))))))))))) (by kernel_rfl) (by kernel_rfl) (by simp [Scr.depth]) (by kernel_rfl) ?_
                      clear H
                      intro _ H hb
                      replace HUr := hidp (HUr.out.to hb); clear hb
                      apply s_val
                      case ho => rfl
                      case hw => rfl
                      case hv => intro w hw; go_simp; first | done | with_reducible rfl | rfl
                      simp only [Act.put, List.getElem_toArray, List.getElem_cons_zero, List.getElem_cons_succ, List.setIfInBounds_toArray, List.set_cons_zero, List.set_cons_succ]
                      apply s_val
                      case ho => rfl
                      case hw => rfl
                      case hv => intro w hw; go_simp; first | done | with_reducible rfl | rfl
                      simp only [Act.put, List.getElem_toArray, List.getElem_cons_zero, List.getElem_cons_succ, List.setIfInBounds_toArray, List.set_cons_zero, List.set_cons_succ]
                      refine Mm.sld0 naI (fun w h => h) rfl rfl (.tmp 120) 4 (.int .i64 l2.b) rfl rfl rfl ?_
                      simp only [Act.put, List.getElem_toArray, List.getElem_cons_zero, List.getElem_cons_succ, List.setIfInBounds_toArray, List.set_cons_zero, List.set_cons_succ]
                      apply s_val
                      case ho => rfl
                      case hw => rfl
                      case hv => intro w hw; go_simp; first | done | with_reducible rfl | rfl
                      simp only [Act.put, List.getElem_toArray, List.getElem_cons_zero, List.getElem_cons_succ, List.setIfInBounds_toArray, List.set_cons_zero, List.set_cons_succ]
                      apply s_val
                      case ho => rfl
                      case hw => rfl
                      case hv => intro w hw; go_simp; first | done | with_reducible rfl | rfl
                      simp only [Act.put, List.getElem_toArray, List.getElem_cons_zero, List.getElem_cons_succ, List.setIfInBounds_toArray, List.set_cons_zero, List.set_cons_succ]
                      apply s_val
                      case ho => rfl
                      case hw => rfl
                      case hv => intro w hw; go_simp; first | done | with_reducible rfl | rfl
                      simp only [Act.put, List.getElem_toArray, List.getElem_cons_zero, List.getElem_cons_succ, List.setIfInBounds_toArray, List.set_cons_zero, List.set_cons_succ]
                      refine Mm.sld0 naI (fun w h => h) rfl rfl (.tmp 124) 3 (.int .i64 l2.k) rfl rfl rfl ?_
                      simp only [Act.put, List.getElem_toArray, List.getElem_cons_zero, List.getElem_cons_succ, List.setIfInBounds_toArray, List.set_cons_zero, List.set_cons_succ]
                      apply s_val
                      case ho => rfl
                      case hw => rfl
                      case hv => intro w hw; go_simp; first | done | with_reducible rfl | rfl
                      simp only [Act.put, List.getElem_toArray, List.getElem_cons_zero, List.getElem_cons_succ, List.setIfInBounds_toArray, List.set_cons_zero, List.set_cons_succ]
                      apply s_val
                      case ho => rfl
                      case hw => rfl
                      case hv => intro w hw; go_simp; first | done | with_reducible rfl | rfl
                      simp only [Act.put, List.getElem_toArray, List.getElem_cons_zero, List.getElem_cons_succ, List.setIfInBounds_toArray, List.set_cons_zero, List.set_cons_succ]
                      refine Mm.sget0 tyL (fun w h => h) rfl rfl (.tmp 11) rfl rfl rfl ?_
                      simp only [Act.put, List.getElem_toArray, List.getElem_cons_zero, List.getElem_cons_succ, List.setIfInBounds_toArray, List.set_cons_zero, List.set_cons_succ]
                      apply s_val
                      case ho => rfl
                      case hw => rfl
                      case hv => intro w hw; go_simp; first | done | with_reducible rfl | rfl
                      simp only [Act.put, List.getElem_toArray, List.getElem_cons_zero, List.getElem_cons_succ, List.setIfInBounds_toArray, List.set_cons_zero, List.set_cons_succ]
                      refine ⟨?_, ?_⟩
                      · refine Mm.o_callH (v := .int .i64 ob) H (fun W h => h) rfl rfl 14 (#[.agg #[.int .i64 l2.a, .int .i64 l2.s, .int .i64 l2.i, .int .i64 l2.k, .int .i64 l2.b, .int .i64 l2.r, v2], .string b]) (by go_simp; first | done | rfl) (co2b.out _ HUr.out) ?_
                        clear H
                        intro _ H hb
                        replace HUr := hidp (HUr.out.to hb); clear hb
                        simp only [Act.put, List.getElem_toArray, List.getElem_cons_zero, List.getElem_cons_succ, List.setIfInBounds_toArray, List.set_cons_zero, List.set_cons_succ]
                        apply s_val
                        case ho => rfl
                        case hw => rfl
                        case hv => intro w hw; go_simp; first | done | with_reducible rfl | rfl
                        simp only [Act.put, List.getElem_toArray, List.getElem_cons_zero, List.getElem_cons_succ, List.setIfInBounds_toArray, List.set_cons_zero, List.set_cons_succ]
                        apply s_val (v := .agg #[.string (⟨#[112, 117, 98, 108, 105, 99]⟩ : ByteArray), .string (⟨#[106, 111, 105, 110]⟩ : ByteArray), .string (⟨#[106, 111, 105, 110]⟩ : ByteArray), .string (⟨#[98, 97, 110]⟩ : ByteArray), .bool false, .bool false, .bool DK, .bool DB, .bool true])
                        case ho => rfl
                        case hw => rfl
                        case hv => intro w hw; go_simp; first | done | with_reducible rfl | rfl
                        simp only [Act.put, List.getElem_toArray, List.getElem_cons_zero, List.getElem_cons_succ, List.setIfInBounds_toArray, List.set_cons_zero, List.set_cons_succ]
                        refine Mm.o_newH mvT H (fun W h => h) rfl rfl rfl ?_
                        clear H
                        intro b21 _ H nw
                        have hb := nw.below
                        have hgu := hidp (show ∀ B o n c, v2 = Value.slice (some ⟨B, o, none⟩) n c → B ≠ b21 from fun B o n c h => Nat.ne_of_lt (Nat.lt_of_lt_of_le (HUr.out.ltB B o n c h) nw.le))
                        replace HUr := hidp (HUr.out.to hb); clear hb nw
                        simp only [Act.put, List.getElem_toArray, List.getElem_cons_zero, List.getElem_cons_succ, List.setIfInBounds_toArray, List.set_cons_zero, List.set_cons_succ]
                        refine Mm.oput0 mvT H [.string (⟨#[112, 117, 98, 108, 105, 99]⟩ : ByteArray), .string (⟨#[106, 111, 105, 110]⟩ : ByteArray), .string (⟨#[106, 111, 105, 110]⟩ : ByteArray), .string (⟨#[98, 97, 110]⟩ : ByteArray), .bool false, .bool false, .bool DK, .bool DB, .bool true] (fun W h => h.tail) rfl rfl (.tmp 21) (.tmp 132) rfl rfl rfl rfl (by simp [Value.oneCell']) rfl ?_
                        intro _ H2 st
                        replace HUr := hidp (HUr.out.stpN st hgu.out); clear st H
                        have H := H2
                        clear H2
                        simp only [Act.put, List.getElem_toArray, List.getElem_cons_zero, List.getElem_cons_succ, List.setIfInBounds_toArray, List.set_cons_zero, List.set_cons_succ]
                        refine NoPanic.normal ?_
                        go_wp2_with (first | (refine Mm.skipd 143 rfl _ _ rfl rfl ?_) | (refine Mm.skipd 144 rfl _ _ rfl rfl ?_) | (refine Mm.get0 mvT H rfl (.tmp 21) rfl rfl rfl ?_) | (go_at_call 15; refine (ca1.out _).mono ?_; rintro e _ ⟨rfl, hb⟩; replace H := hidp (H.out.call hb); clear ca1; replace HUr := hidp (HUr.out.to hb); clear hb) | (refine Mm.putF0 H rfl 9 (.tmp 136) (.const (.string (⟨#[108, 101, 97, 118, 101]⟩ : ByteArray))) 3 (.string (⟨#[108, 101, 97, 118, 101]⟩ : ByteArray)) rfl rfl rfl (by kernel_rfl) rfl (of_decide_eq_true rfl) ?_; intro _ H2 st; replace HUr := hidp (HUr.out.stpN st hgu.out) ; clear st H; have H : Hid (Mm.M w.heap.size w _ ([⟨b21, 48, [.string (⟨#[112, 117, 98, 108, 105, 99]⟩ : ByteArray), .string (⟨#[106, 111, 105, 110]⟩ : ByteArray), .string (⟨#[106, 111, 105, 110]⟩ : ByteArray), .string (⟨#[108, 101, 97, 118, 101]⟩ : ByteArray), .bool false, .bool false, .bool DK, .bool DB, .bool true]⟩, ⟨b11, 40, [.int .i64 l2.a, .int .i64 l2.s, .int .i64 l2.i, .int .i64 l2.k, .int .i64 l2.b, .int .i64 l2.r, v2]⟩])) := H2; clear H2) | (refine Mm.get0 mvT H rfl (.tmp 21) rfl rfl rfl ?_) | (go_at_call 15; refine (ca2.out _).mono ?_; rintro e _ ⟨rfl, hb⟩; replace H := hidp (H.out.call hb); clear ca2; replace HUr := hidp (HUr.out.to hb); clear hb) | (refine Mm.get1 tyL H rfl (.tmp 11) rfl rfl rfl ?_) | (go_at_call 14; refine (co2c.out _ HUr.out).mono ?_; rintro e _ ⟨rfl, hb⟩; replace H := hidp (H.out.call hb); replace HUr := hidp (HUr.out.to hb); clear hb))
                        go_ret
                        exact ⟨rfl, H.out.below⟩
                      · refine Mm.o_newH mvT H (fun W h => h) rfl rfl rfl ?_
                        clear H
                        intro b21 _ H nw
                        have hb := nw.below
                        have hgu := hidp (show ∀ B o n c, v2 = Value.slice (some ⟨B, o, none⟩) n c → B ≠ b21 from fun B o n c h => Nat.ne_of_lt (Nat.lt_of_lt_of_le (HUr.out.ltB B o n c h) nw.le))
                        replace HUr := hidp (HUr.out.to hb); clear hb nw
                        simp only [Act.put, List.getElem_toArray, List.getElem_cons_zero, List.getElem_cons_succ, List.setIfInBounds_toArray, List.set_cons_zero, List.set_cons_succ]
                        refine Mm.o_callH (v := .int .i64 ob) H (fun W h => h.tail) rfl rfl 14 (#[.agg #[.int .i64 l2.a, .int .i64 l2.s, .int .i64 l2.i, .int .i64 l2.k, .int .i64 l2.b, .int .i64 l2.r, v2], .string b]) (by go_simp; first | done | rfl) (co2b.out _ HUr.out) ?_
                        clear H
                        intro _ H hb
                        replace HUr := hidp (HUr.out.to hb); clear hb
                        simp only [Act.put, List.getElem_toArray, List.getElem_cons_zero, List.getElem_cons_succ, List.setIfInBounds_toArray, List.set_cons_zero, List.set_cons_succ]
                        apply s_val
                        case ho => rfl
                        case hw => rfl
                        case hv => intro w hw; go_simp; first | done | with_reducible rfl | rfl
                        simp only [Act.put, List.getElem_toArray, List.getElem_cons_zero, List.getElem_cons_succ, List.setIfInBounds_toArray, List.set_cons_zero, List.set_cons_succ]
                        apply s_val (v := .agg #[.string (⟨#[112, 117, 98, 108, 105, 99]⟩ : ByteArray), .string (⟨#[106, 111, 105, 110]⟩ : ByteArray), .string (⟨#[106, 111, 105, 110]⟩ : ByteArray), .string (⟨#[98, 97, 110]⟩ : ByteArray), .bool false, .bool false, .bool DK, .bool DB, .bool true])
                        case ho => rfl
                        case hw => rfl
                        case hv => intro w hw; go_simp; first | done | with_reducible rfl | rfl
                        simp only [Act.put, List.getElem_toArray, List.getElem_cons_zero, List.getElem_cons_succ, List.setIfInBounds_toArray, List.set_cons_zero, List.set_cons_succ]
                        refine Mm.oput0 mvT H [.string (⟨#[112, 117, 98, 108, 105, 99]⟩ : ByteArray), .string (⟨#[106, 111, 105, 110]⟩ : ByteArray), .string (⟨#[106, 111, 105, 110]⟩ : ByteArray), .string (⟨#[98, 97, 110]⟩ : ByteArray), .bool false, .bool false, .bool DK, .bool DB, .bool true] (fun W h => h.tail) rfl rfl (.tmp 21) (.tmp 132) rfl rfl rfl rfl (by simp [Value.oneCell']) rfl ?_
                        intro _ H2 st
                        replace HUr := hidp (HUr.out.stpN st hgu.out); clear st H
                        have H := H2
                        clear H2
                        simp only [Act.put, List.getElem_toArray, List.getElem_cons_zero, List.getElem_cons_succ, List.setIfInBounds_toArray, List.set_cons_zero, List.set_cons_succ]
                        refine NoPanic.normal ?_
                        go_wp2_with (first | (refine Mm.skipd 143 rfl _ _ rfl rfl ?_) | (refine Mm.skipd 144 rfl _ _ rfl rfl ?_) | (refine Mm.get0 mvT H rfl (.tmp 21) rfl rfl rfl ?_) | (go_at_call 15; refine (ca1.out _).mono ?_; rintro e _ ⟨rfl, hb⟩; replace H := hidp (H.out.call hb); clear ca1; replace HUr := hidp (HUr.out.to hb); clear hb) | (refine Mm.putF0 H rfl 9 (.tmp 136) (.const (.string (⟨#[108, 101, 97, 118, 101]⟩ : ByteArray))) 3 (.string (⟨#[108, 101, 97, 118, 101]⟩ : ByteArray)) rfl rfl rfl (by kernel_rfl) rfl (of_decide_eq_true rfl) ?_; intro _ H2 st; replace HUr := hidp (HUr.out.stpN st hgu.out) ; clear st H; have H : Hid (Mm.M w.heap.size w _ ([⟨b21, 48, [.string (⟨#[112, 117, 98, 108, 105, 99]⟩ : ByteArray), .string (⟨#[106, 111, 105, 110]⟩ : ByteArray), .string (⟨#[106, 111, 105, 110]⟩ : ByteArray), .string (⟨#[108, 101, 97, 118, 101]⟩ : ByteArray), .bool false, .bool false, .bool DK, .bool DB, .bool true]⟩, ⟨b11, 40, [.int .i64 l2.a, .int .i64 l2.s, .int .i64 l2.i, .int .i64 l2.k, .int .i64 l2.b, .int .i64 l2.r, v2]⟩])) := H2; clear H2) | (refine Mm.get0 mvT H rfl (.tmp 21) rfl rfl rfl ?_) | (go_at_call 15; refine (ca2.out _).mono ?_; rintro e _ ⟨rfl, hb⟩; replace H := hidp (H.out.call hb); clear ca2; replace HUr := hidp (HUr.out.to hb); clear hb) | (refine Mm.get1 tyL H rfl (.tmp 11) rfl rfl rfl ?_) | (go_at_call 14; refine (co2c.out _ HUr.out).mono ?_; rintro e _ ⟨rfl, hb⟩; replace H := hidp (H.out.call hb); replace HUr := hidp (HUr.out.to hb); clear hb))
                        go_ret
                        exact ⟨rfl, H.out.below⟩
                    | false =>
                      cases hB2 : (X2 == 0) with
                      | true =>
                        go_wp2_with (first | (refine Mm.skipd 81 rfl _ _ rfl rfl ?_) | (refine Mm.skipd 82 rfl _ _ rfl rfl ?_) | (refine Mm.skipd 83 rfl _ _ rfl rfl ?_) | (refine Mm.get0 tyL H rfl (.tmp 11) rfl rfl rfl ?_) | (go_at_call 14; refine (co1.out _ HUr.out).mono ?_; rintro e _ ⟨rfl, hb⟩; replace H := hidp (H.out.call hb); clear co1; replace HUr := hidp (HUr.out.to hb); clear hb) | (go_at_call 14; refine (co2.out _ HUr.out).mono ?_; rintro e _ ⟨rfl, hb⟩; replace H := hidp (H.out.call hb); clear co2; replace HUr := hidp (HUr.out.to hb); clear hb) | (go_at_call 14; refine (co1b.out _ HUr.out).mono ?_; rintro e _ ⟨rfl, hb⟩; replace H := hidp (H.out.call hb); clear co1b; replace HUr := hidp (HUr.out.to hb); clear hb))
                        refine Mm.region H (.take 0 (.take 1 (.take 2 (.take 3 (.take 4 (.take 5 (.take 6 (.take 7 (.take 8 (.take 9 (.take 10 (.two 11 (.take 12 (.take 13 (.one 14 (.one 15 .done)))) 14 (.one 11 (.take 12 (.take 13 (.one 15 .done)))))))))))))))) (by kernel_rfl) (by kernel_rfl) (by simp [Scr.depth]) (by kernel_rfl) ?_
                        clear H
                        intro _ H hb
                        replace HUr := hidp (HUr.out.to hb); clear hb
                        apply s_val
                        case ho => rfl
                        case hw => rfl
                        case hv => intro w hw; go_simp; first | done | with_reducible rfl | rfl
                        simp only [Act.put, List.getElem_toArray, List.getElem_cons_zero, List.getElem_cons_succ, List.setIfInBounds_toArray, List.set_cons_zero, List.set_cons_succ]
                        apply s_val
                        case ho => rfl
                        case hw => rfl
                        case hv => intro w hw; go_simp; first | done | with_reducible rfl | rfl
                        simp only [Act.put, List.getElem_toArray, List.getElem_cons_zero, List.getElem_cons_succ, List.setIfInBounds_toArray, List.set_cons_zero, List.set_cons_succ]
                        refine Mm.sld0 naI (fun w h => h) rfl rfl (.tmp 120) 4 (.int .i64 l2.b) rfl rfl rfl ?_
                        simp only [Act.put, List.getElem_toArray, List.getElem_cons_zero, List.getElem_cons_succ, List.setIfInBounds_toArray, List.set_cons_zero, List.set_cons_succ]
                        apply s_val
                        case ho => rfl
                        case hw => rfl
                        case hv => intro w hw; go_simp; first | done | with_reducible rfl | rfl
                        simp only [Act.put, List.getElem_toArray, List.getElem_cons_zero, List.getElem_cons_succ, List.setIfInBounds_toArray, List.set_cons_zero, List.set_cons_succ]
                        apply s_val
                        case ho => rfl
                        case hw => rfl
                        case hv => intro w hw; go_simp; first | done | with_reducible rfl | rfl
                        simp only [Act.put, List.getElem_toArray, List.getElem_cons_zero, List.getElem_cons_succ, List.setIfInBounds_toArray, List.set_cons_zero, List.set_cons_succ]
                        apply s_val
                        case ho => rfl
                        case hw => rfl
                        case hv => intro w hw; go_simp; first | done | with_reducible rfl | rfl
                        simp only [Act.put, List.getElem_toArray, List.getElem_cons_zero, List.getElem_cons_succ, List.setIfInBounds_toArray, List.set_cons_zero, List.set_cons_succ]
                        refine Mm.sld0 naI (fun w h => h) rfl rfl (.tmp 124) 3 (.int .i64 l2.k) rfl rfl rfl ?_
                        simp only [Act.put, List.getElem_toArray, List.getElem_cons_zero, List.getElem_cons_succ, List.setIfInBounds_toArray, List.set_cons_zero, List.set_cons_succ]
                        apply s_val
                        case ho => rfl
                        case hw => rfl
                        case hv => intro w hw; go_simp; first | done | with_reducible rfl | rfl
                        simp only [Act.put, List.getElem_toArray, List.getElem_cons_zero, List.getElem_cons_succ, List.setIfInBounds_toArray, List.set_cons_zero, List.set_cons_succ]
                        apply s_val
                        case ho => rfl
                        case hw => rfl
                        case hv => intro w hw; go_simp; first | done | with_reducible rfl | rfl
                        simp only [Act.put, List.getElem_toArray, List.getElem_cons_zero, List.getElem_cons_succ, List.setIfInBounds_toArray, List.set_cons_zero, List.set_cons_succ]
                        refine Mm.sget0 tyL (fun w h => h) rfl rfl (.tmp 11) rfl rfl rfl ?_
                        simp only [Act.put, List.getElem_toArray, List.getElem_cons_zero, List.getElem_cons_succ, List.setIfInBounds_toArray, List.set_cons_zero, List.set_cons_succ]
                        apply s_val
                        case ho => rfl
                        case hw => rfl
                        case hv => intro w hw; go_simp; first | done | with_reducible rfl | rfl
                        simp only [Act.put, List.getElem_toArray, List.getElem_cons_zero, List.getElem_cons_succ, List.setIfInBounds_toArray, List.set_cons_zero, List.set_cons_succ]
                        refine ⟨?_, ?_⟩
                        · refine Mm.o_callH (v := .int .i64 ob) H (fun W h => h) rfl rfl 14 (#[.agg #[.int .i64 l2.a, .int .i64 l2.s, .int .i64 l2.i, .int .i64 l2.k, .int .i64 l2.b, .int .i64 l2.r, v2], .string b]) (by go_simp; first | done | rfl) (co2b.out _ HUr.out) ?_
                          clear H
                          intro _ H hb
                          replace HUr := hidp (HUr.out.to hb); clear hb
                          simp only [Act.put, List.getElem_toArray, List.getElem_cons_zero, List.getElem_cons_succ, List.setIfInBounds_toArray, List.set_cons_zero, List.set_cons_succ]
                          apply s_val
                          case ho => rfl
                          case hw => rfl
                          case hv => intro w hw; go_simp; first | done | with_reducible rfl | rfl
                          simp only [Act.put, List.getElem_toArray, List.getElem_cons_zero, List.getElem_cons_succ, List.setIfInBounds_toArray, List.set_cons_zero, List.set_cons_succ]
                          apply s_val (v := .agg #[.string (⟨#[112, 117, 98, 108, 105, 99]⟩ : ByteArray), .string (⟨#[106, 111, 105, 110]⟩ : ByteArray), .string (⟨#[106, 111, 105, 110]⟩ : ByteArray), .string (⟨#[98, 97, 110]⟩ : ByteArray), .bool false, .bool false, .bool DK, .bool DB, .bool true])
                          case ho => rfl
                          case hw => rfl
                          case hv => intro w hw; go_simp; first | done | with_reducible rfl | rfl
                          simp only [Act.put, List.getElem_toArray, List.getElem_cons_zero, List.getElem_cons_succ, List.setIfInBounds_toArray, List.set_cons_zero, List.set_cons_succ]
                          refine Mm.o_newH mvT H (fun W h => h) rfl rfl rfl ?_
                          clear H
                          intro b21 _ H nw
                          have hb := nw.below
                          have hgu := hidp (show ∀ B o n c, v2 = Value.slice (some ⟨B, o, none⟩) n c → B ≠ b21 from fun B o n c h => Nat.ne_of_lt (Nat.lt_of_lt_of_le (HUr.out.ltB B o n c h) nw.le))
                          replace HUr := hidp (HUr.out.to hb); clear hb nw
                          simp only [Act.put, List.getElem_toArray, List.getElem_cons_zero, List.getElem_cons_succ, List.setIfInBounds_toArray, List.set_cons_zero, List.set_cons_succ]
                          refine Mm.oput0 mvT H [.string (⟨#[112, 117, 98, 108, 105, 99]⟩ : ByteArray), .string (⟨#[106, 111, 105, 110]⟩ : ByteArray), .string (⟨#[106, 111, 105, 110]⟩ : ByteArray), .string (⟨#[98, 97, 110]⟩ : ByteArray), .bool false, .bool false, .bool DK, .bool DB, .bool true] (fun W h => h.tail) rfl rfl (.tmp 21) (.tmp 132) rfl rfl rfl rfl (by simp [Value.oneCell']) rfl ?_
                          intro _ H2 st
                          replace HUr := hidp (HUr.out.stpN st hgu.out); clear st H
                          have H := H2
                          clear H2
                          simp only [Act.put, List.getElem_toArray, List.getElem_cons_zero, List.getElem_cons_succ, List.setIfInBounds_toArray, List.set_cons_zero, List.set_cons_succ]
                          refine NoPanic.normal ?_
                          go_wp2_with (first | (refine Mm.get0 mvT H rfl (.tmp 21) rfl rfl rfl ?_) | (go_at_call 15; refine (ca1.out _).mono ?_; rintro e _ ⟨rfl, hb⟩; replace H := hidp (H.out.call hb); clear ca1; replace HUr := hidp (HUr.out.to hb); clear hb) | (refine Mm.putF0 H rfl 9 (.tmp 136) (.const (.string (⟨#[108, 101, 97, 118, 101]⟩ : ByteArray))) 3 (.string (⟨#[108, 101, 97, 118, 101]⟩ : ByteArray)) rfl rfl rfl (by kernel_rfl) rfl (of_decide_eq_true rfl) ?_; intro _ H2 st; replace HUr := hidp (HUr.out.stpN st hgu.out) ; clear st H; have H : Hid (Mm.M w.heap.size w _ ([⟨b21, 48, [.string (⟨#[112, 117, 98, 108, 105, 99]⟩ : ByteArray), .string (⟨#[106, 111, 105, 110]⟩ : ByteArray), .string (⟨#[106, 111, 105, 110]⟩ : ByteArray), .string (⟨#[108, 101, 97, 118, 101]⟩ : ByteArray), .bool false, .bool false, .bool DK, .bool DB, .bool true]⟩, ⟨b11, 40, [.int .i64 l2.a, .int .i64 l2.s, .int .i64 l2.i, .int .i64 l2.k, .int .i64 l2.b, .int .i64 l2.r, v2]⟩])) := H2; clear H2) | (refine Mm.get0 mvT H rfl (.tmp 21) rfl rfl rfl ?_) | (go_at_call 15; refine (ca2.out _).mono ?_; rintro e _ ⟨rfl, hb⟩; replace H := hidp (H.out.call hb); clear ca2; replace HUr := hidp (HUr.out.to hb); clear hb) | (refine Mm.get1 tyL H rfl (.tmp 11) rfl rfl rfl ?_) | (go_at_call 14; refine (co2c.out _ HUr.out).mono ?_; rintro e _ ⟨rfl, hb⟩; replace H := hidp (H.out.call hb); replace HUr := hidp (HUr.out.to hb); clear hb))
                          go_ret
                          exact ⟨rfl, H.out.below⟩
                        · refine Mm.o_newH mvT H (fun W h => h) rfl rfl rfl ?_
                          clear H
                          intro b21 _ H nw
                          have hb := nw.below
                          have hgu := hidp (show ∀ B o n c, v2 = Value.slice (some ⟨B, o, none⟩) n c → B ≠ b21 from fun B o n c h => Nat.ne_of_lt (Nat.lt_of_lt_of_le (HUr.out.ltB B o n c h) nw.le))
                          replace HUr := hidp (HUr.out.to hb); clear hb nw
                          simp only [Act.put, List.getElem_toArray, List.getElem_cons_zero, List.getElem_cons_succ, List.setIfInBounds_toArray, List.set_cons_zero, List.set_cons_succ]
                          refine Mm.o_callH (v := .int .i64 ob) H (fun W h => h.tail) rfl rfl 14 (#[.agg #[.int .i64 l2.a, .int .i64 l2.s, .int .i64 l2.i, .int .i64 l2.k, .int .i64 l2.b, .int .i64 l2.r, v2], .string b]) (by go_simp; first | done | rfl) (co2b.out _ HUr.out) ?_
                          clear H
                          intro _ H hb
                          replace HUr := hidp (HUr.out.to hb); clear hb
                          simp only [Act.put, List.getElem_toArray, List.getElem_cons_zero, List.getElem_cons_succ, List.setIfInBounds_toArray, List.set_cons_zero, List.set_cons_succ]
                          apply s_val
                          case ho => rfl
                          case hw => rfl
                          case hv => intro w hw; go_simp; first | done | with_reducible rfl | rfl
                          simp only [Act.put, List.getElem_toArray, List.getElem_cons_zero, List.getElem_cons_succ, List.setIfInBounds_toArray, List.set_cons_zero, List.set_cons_succ]
                          apply s_val (v := .agg #[.string (⟨#[112, 117, 98, 108, 105, 99]⟩ : ByteArray), .string (⟨#[106, 111, 105, 110]⟩ : ByteArray), .string (⟨#[106, 111, 105, 110]⟩ : ByteArray), .string (⟨#[98, 97, 110]⟩ : ByteArray), .bool false, .bool false, .bool DK, .bool DB, .bool true])
                          case ho => rfl
                          case hw => rfl
                          case hv => intro w hw; go_simp; first | done | with_reducible rfl | rfl
                          simp only [Act.put, List.getElem_toArray, List.getElem_cons_zero, List.getElem_cons_succ, List.setIfInBounds_toArray, List.set_cons_zero, List.set_cons_succ]
                          refine Mm.oput0 mvT H [.string (⟨#[112, 117, 98, 108, 105, 99]⟩ : ByteArray), .string (⟨#[106, 111, 105, 110]⟩ : ByteArray), .string (⟨#[106, 111, 105, 110]⟩ : ByteArray), .string (⟨#[98, 97, 110]⟩ : ByteArray), .bool false, .bool false, .bool DK, .bool DB, .bool true] (fun W h => h.tail) rfl rfl (.tmp 21) (.tmp 132) rfl rfl rfl rfl (by simp [Value.oneCell']) rfl ?_
                          intro _ H2 st
                          replace HUr := hidp (HUr.out.stpN st hgu.out); clear st H
                          have H := H2
                          clear H2
                          simp only [Act.put, List.getElem_toArray, List.getElem_cons_zero, List.getElem_cons_succ, List.setIfInBounds_toArray, List.set_cons_zero, List.set_cons_succ]
                          refine NoPanic.normal ?_
                          go_wp2_with (first | (refine Mm.get0 mvT H rfl (.tmp 21) rfl rfl rfl ?_) | (go_at_call 15; refine (ca1.out _).mono ?_; rintro e _ ⟨rfl, hb⟩; replace H := hidp (H.out.call hb); clear ca1; replace HUr := hidp (HUr.out.to hb); clear hb) | (refine Mm.putF0 H rfl 9 (.tmp 136) (.const (.string (⟨#[108, 101, 97, 118, 101]⟩ : ByteArray))) 3 (.string (⟨#[108, 101, 97, 118, 101]⟩ : ByteArray)) rfl rfl rfl (by kernel_rfl) rfl (of_decide_eq_true rfl) ?_; intro _ H2 st; replace HUr := hidp (HUr.out.stpN st hgu.out) ; clear st H; have H : Hid (Mm.M w.heap.size w _ ([⟨b21, 48, [.string (⟨#[112, 117, 98, 108, 105, 99]⟩ : ByteArray), .string (⟨#[106, 111, 105, 110]⟩ : ByteArray), .string (⟨#[106, 111, 105, 110]⟩ : ByteArray), .string (⟨#[108, 101, 97, 118, 101]⟩ : ByteArray), .bool false, .bool false, .bool DK, .bool DB, .bool true]⟩, ⟨b11, 40, [.int .i64 l2.a, .int .i64 l2.s, .int .i64 l2.i, .int .i64 l2.k, .int .i64 l2.b, .int .i64 l2.r, v2]⟩])) := H2; clear H2) | (refine Mm.get0 mvT H rfl (.tmp 21) rfl rfl rfl ?_) | (go_at_call 15; refine (ca2.out _).mono ?_; rintro e _ ⟨rfl, hb⟩; replace H := hidp (H.out.call hb); clear ca2; replace HUr := hidp (HUr.out.to hb); clear hb) | (refine Mm.get1 tyL H rfl (.tmp 11) rfl rfl rfl ?_) | (go_at_call 14; refine (co2c.out _ HUr.out).mono ?_; rintro e _ ⟨rfl, hb⟩; replace H := hidp (H.out.call hb); replace HUr := hidp (HUr.out.to hb); clear hb))
                          go_ret
                          exact ⟨rfl, H.out.below⟩
                      | false =>
                        go_wp2_with (first | (refine Mm.skipd 81 rfl _ _ rfl rfl ?_) | (refine Mm.skipd 82 rfl _ _ rfl rfl ?_) | (refine Mm.skipd 83 rfl _ _ rfl rfl ?_) | (refine Mm.get0 tyL H rfl (.tmp 11) rfl rfl rfl ?_) | (go_at_call 14; refine (co1.out _ HUr.out).mono ?_; rintro e _ ⟨rfl, hb⟩; replace H := hidp (H.out.call hb); clear co1; replace HUr := hidp (HUr.out.to hb); clear hb) | (go_at_call 14; refine (co2.out _ HUr.out).mono ?_; rintro e _ ⟨rfl, hb⟩; replace H := hidp (H.out.call hb); clear co2; replace HUr := hidp (HUr.out.to hb); clear hb) | (go_at_call 14; refine (co1b.out _ HUr.out).mono ?_; rintro e _ ⟨rfl, hb⟩; replace H := hidp (H.out.call hb); clear co1b; replace HUr := hidp (HUr.out.to hb); clear hb))
                        refine Mm.region H (.take 0 (.take 1 (.take 2 (.take 3 (.take 4 (.take 5 (.take 6 (.take 7 (.take 8 (.take 9 (.take 10 (.two 11 (.take 12 (.take 13 (.one 14 (.one 15 .done)))) 14 (.one 11 (.take 12 (.take 13 (.one 15 .done)))))))))))))))) (by kernel_rfl) (by kernel_rfl) (by simp [Scr.depth]) (by kernel_rfl) ?_
                        clear H
                        intro _ H hb
                        replace HUr := hidp (HUr.out.to hb); clear hb
                        apply s_val
                        case ho => rfl
                        case hw => rfl
                        case hv => intro w hw; go_simp; first | done | with_reducible rfl | rfl
                        simp only [Act.put, List.getElem_toArray, List.getElem_cons_zero, List.getElem_cons_succ, List.setIfInBounds_toArray, List.set_cons_zero, List.set_cons_succ]
                        apply s_val
                        case ho => rfl
                        case hw => rfl
                        case hv => intro w hw; go_simp; first | done | with_reducible rfl | rfl
                        simp only [Act.put, List.getElem_toArray, List.getElem_cons_zero, List.getElem_cons_succ, List.setIfInBounds_toArray, List.set_cons_zero, List.set_cons_succ]
                        refine Mm.sld0 naI (fun w h => h) rfl rfl (.tmp 120) 4 (.int .i64 l2.b) rfl rfl rfl ?_
                        simp only [Act.put, List.getElem_toArray, List.getElem_cons_zero, List.getElem_cons_succ, List.setIfInBounds_toArray, List.set_cons_zero, List.set_cons_succ]
                        apply s_val
                        case ho => rfl
                        case hw => rfl
                        case hv => intro w hw; go_simp; first | done | with_reducible rfl | rfl
                        simp only [Act.put, List.getElem_toArray, List.getElem_cons_zero, List.getElem_cons_succ, List.setIfInBounds_toArray, List.set_cons_zero, List.set_cons_succ]
                        apply s_val
                        case ho => rfl
                        case hw => rfl
                        case hv => intro w hw; go_simp; first | done | with_reducible rfl | rfl
                        simp only [Act.put, List.getElem_toArray, List.getElem_cons_zero, List.getElem_cons_succ, List.setIfInBounds_toArray, List.set_cons_zero, List.set_cons_succ]
                        apply s_val
                        case ho => rfl
                        case hw => rfl
                        case hv => intro w hw; go_simp; first | done | with_reducible rfl | rfl
                        simp only [Act.put, List.getElem_toArray, List.getElem_cons_zero, List.getElem_cons_succ, List.setIfInBounds_toArray, List.set_cons_zero, List.set_cons_succ]
                        refine Mm.sld0 naI (fun w h => h) rfl rfl (.tmp 124) 3 (.int .i64 l2.k) rfl rfl rfl ?_
                        simp only [Act.put, List.getElem_toArray, List.getElem_cons_zero, List.getElem_cons_succ, List.setIfInBounds_toArray, List.set_cons_zero, List.set_cons_succ]
                        apply s_val
                        case ho => rfl
                        case hw => rfl
                        case hv => intro w hw; go_simp; first | done | with_reducible rfl | rfl
                        simp only [Act.put, List.getElem_toArray, List.getElem_cons_zero, List.getElem_cons_succ, List.setIfInBounds_toArray, List.set_cons_zero, List.set_cons_succ]
                        apply s_val
                        case ho => rfl
                        case hw => rfl
                        case hv => intro w hw; go_simp; first | done | with_reducible rfl | rfl
                        simp only [Act.put, List.getElem_toArray, List.getElem_cons_zero, List.getElem_cons_succ, List.setIfInBounds_toArray, List.set_cons_zero, List.set_cons_succ]
                        refine Mm.sget0 tyL (fun w h => h) rfl rfl (.tmp 11) rfl rfl rfl ?_
                        simp only [Act.put, List.getElem_toArray, List.getElem_cons_zero, List.getElem_cons_succ, List.setIfInBounds_toArray, List.set_cons_zero, List.set_cons_succ]
                        apply s_val
                        case ho => rfl
                        case hw => rfl
                        case hv => intro w hw; go_simp; first | done | with_reducible rfl | rfl
                        simp only [Act.put, List.getElem_toArray, List.getElem_cons_zero, List.getElem_cons_succ, List.setIfInBounds_toArray, List.set_cons_zero, List.set_cons_succ]
                        refine ⟨?_, ?_⟩
                        · refine Mm.o_callH (v := .int .i64 ob) H (fun W h => h) rfl rfl 14 (#[.agg #[.int .i64 l2.a, .int .i64 l2.s, .int .i64 l2.i, .int .i64 l2.k, .int .i64 l2.b, .int .i64 l2.r, v2], .string b]) (by go_simp; first | done | rfl) (co2b.out _ HUr.out) ?_
                          clear H
                          intro _ H hb
                          replace HUr := hidp (HUr.out.to hb); clear hb
                          simp only [Act.put, List.getElem_toArray, List.getElem_cons_zero, List.getElem_cons_succ, List.setIfInBounds_toArray, List.set_cons_zero, List.set_cons_succ]
                          apply s_val
                          case ho => rfl
                          case hw => rfl
                          case hv => intro w hw; go_simp; first | done | with_reducible rfl | rfl
                          simp only [Act.put, List.getElem_toArray, List.getElem_cons_zero, List.getElem_cons_succ, List.setIfInBounds_toArray, List.set_cons_zero, List.set_cons_succ]
                          apply s_val (v := .agg #[.string (⟨#[112, 117, 98, 108, 105, 99]⟩ : ByteArray), .string (⟨#[106, 111, 105, 110]⟩ : ByteArray), .string (⟨#[106, 111, 105, 110]⟩ : ByteArray), .string (⟨#[98, 97, 110]⟩ : ByteArray), .bool false, .bool false, .bool DK, .bool DB, .bool true])
                          case ho => rfl
                          case hw => rfl
                          case hv => intro w hw; go_simp; first | done | with_reducible rfl | rfl
                          simp only [Act.put, List.getElem_toArray, List.getElem_cons_zero, List.getElem_cons_succ, List.setIfInBounds_toArray, List.set_cons_zero, List.set_cons_succ]
                          refine Mm.o_newH mvT H (fun W h => h) rfl rfl rfl ?_
                          clear H
                          intro b21 _ H nw
                          have hb := nw.below
                          have hgu := hidp (show ∀ B o n c, v2 = Value.slice (some ⟨B, o, none⟩) n c → B ≠ b21 from fun B o n c h => Nat.ne_of_lt (Nat.lt_of_lt_of_le (HUr.out.ltB B o n c h) nw.le))
                          replace HUr := hidp (HUr.out.to hb); clear hb nw
                          simp only [Act.put, List.getElem_toArray, List.getElem_cons_zero, List.getElem_cons_succ, List.setIfInBounds_toArray, List.set_cons_zero, List.set_cons_succ]
                          refine Mm.oput0 mvT H [.string (⟨#[112, 117, 98, 108, 105, 99]⟩ : ByteArray), .string (⟨#[106, 111, 105, 110]⟩ : ByteArray), .string (⟨#[106, 111, 105, 110]⟩ : ByteArray), .string (⟨#[98, 97, 110]⟩ : ByteArray), .bool false, .bool false, .bool DK, .bool DB, .bool true] (fun W h => h.tail) rfl rfl (.tmp 21) (.tmp 132) rfl rfl rfl rfl (by simp [Value.oneCell']) rfl ?_
                          intro _ H2 st
                          replace HUr := hidp (HUr.out.stpN st hgu.out); clear st H
                          have H := H2
                          clear H2
                          simp only [Act.put, List.getElem_toArray, List.getElem_cons_zero, List.getElem_cons_succ, List.setIfInBounds_toArray, List.set_cons_zero, List.set_cons_succ]
                          refine NoPanic.normal ?_
                          go_wp2_with (first | (refine Mm.skipd 147 rfl _ _ rfl rfl ?_) | (refine Mm.skipd 148 rfl _ _ rfl rfl ?_) | (refine Mm.skipd 149 rfl _ _ rfl rfl ?_) | (refine Mm.skipd 150 rfl _ _ rfl rfl ?_) | (refine Mm.skipd 151 rfl _ _ rfl rfl ?_) | (refine Mm.get0 mvT H rfl (.tmp 21) rfl rfl rfl ?_) | (go_at_call 15; refine (ca1.out _).mono ?_; rintro e _ ⟨rfl, hb⟩; replace H := hidp (H.out.call hb); clear ca1; replace HUr := hidp (HUr.out.to hb); clear hb) | (refine Mm.putF0 H rfl 9 (.tmp 136) (.const (.string (⟨#[108, 101, 97, 118, 101]⟩ : ByteArray))) 3 (.string (⟨#[108, 101, 97, 118, 101]⟩ : ByteArray)) rfl rfl rfl (by kernel_rfl) rfl (of_decide_eq_true rfl) ?_; intro _ H2 st; replace HUr := hidp (HUr.out.stpN st hgu.out) ; clear st H; have H : Hid (Mm.M w.heap.size w _ ([⟨b21, 48, [.string (⟨#[112, 117, 98, 108, 105, 99]⟩ : ByteArray), .string (⟨#[106, 111, 105, 110]⟩ : ByteArray), .string (⟨#[106, 111, 105, 110]⟩ : ByteArray), .string (⟨#[108, 101, 97, 118, 101]⟩ : ByteArray), .bool false, .bool false, .bool DK, .bool DB, .bool true]⟩, ⟨b11, 40, [.int .i64 l2.a, .int .i64 l2.s, .int .i64 l2.i, .int .i64 l2.k, .int .i64 l2.b, .int .i64 l2.r, v2]⟩])) := H2; clear H2) | (refine Mm.get0 mvT H rfl (.tmp 21) rfl rfl rfl ?_) | (go_at_call 15; refine (ca2.out _).mono ?_; rintro e _ ⟨rfl, hb⟩; replace H := hidp (H.out.call hb); clear ca2; replace HUr := hidp (HUr.out.to hb); clear hb) | (refine Mm.get1 tyL H rfl (.tmp 11) rfl rfl rfl ?_) | (go_at_call 14; refine (co2c.out _ HUr.out).mono ?_; rintro e _ ⟨rfl, hb⟩; replace H := hidp (H.out.call hb); replace HUr := hidp (HUr.out.to hb); clear hb))
                          go_ret
                          exact ⟨rfl, H.out.below⟩
                        · refine Mm.o_newH mvT H (fun W h => h) rfl rfl rfl ?_
                          clear H
                          intro b21 _ H nw
                          have hb := nw.below
                          have hgu := hidp (show ∀ B o n c, v2 = Value.slice (some ⟨B, o, none⟩) n c → B ≠ b21 from fun B o n c h => Nat.ne_of_lt (Nat.lt_of_lt_of_le (HUr.out.ltB B o n c h) nw.le))
                          replace HUr := hidp (HUr.out.to hb); clear hb nw
                          simp only [Act.put, List.getElem_toArray, List.getElem_cons_zero, List.getElem_cons_succ, List.setIfInBounds_toArray, List.set_cons_zero, List.set_cons_succ]
                          refine Mm.o_callH (v := .int .i64 ob) H (fun W h => h.tail) rfl rfl 14 (#[.agg #[.int .i64 l2.a, .int .i64 l2.s, .int .i64 l2.i, .int .i64 l2.k, .int .i64 l2.b, .int .i64 l2.r, v2], .string b]) (by go_simp; first | done | rfl) (co2b.out _ HUr.out) ?_
                          clear H
                          intro _ H hb
                          replace HUr := hidp (HUr.out.to hb); clear hb
                          simp only [Act.put, List.getElem_toArray, List.getElem_cons_zero, List.getElem_cons_succ, List.setIfInBounds_toArray, List.set_cons_zero, List.set_cons_succ]
                          apply s_val
                          case ho => rfl
                          case hw => rfl
                          case hv => intro w hw; go_simp; first | done | with_reducible rfl | rfl
                          simp only [Act.put, List.getElem_toArray, List.getElem_cons_zero, List.getElem_cons_succ, List.setIfInBounds_toArray, List.set_cons_zero, List.set_cons_succ]
                          apply s_val (v := .agg #[.string (⟨#[112, 117, 98, 108, 105, 99]⟩ : ByteArray), .string (⟨#[106, 111, 105, 110]⟩ : ByteArray), .string (⟨#[106, 111, 105, 110]⟩ : ByteArray), .string (⟨#[98, 97, 110]⟩ : ByteArray), .bool false, .bool false, .bool DK, .bool DB, .bool true])
                          case ho => rfl
                          case hw => rfl
                          case hv => intro w hw; go_simp; first | done | with_reducible rfl | rfl
                          simp only [Act.put, List.getElem_toArray, List.getElem_cons_zero, List.getElem_cons_succ, List.setIfInBounds_toArray, List.set_cons_zero, List.set_cons_succ]
                          refine Mm.oput0 mvT H [.string (⟨#[112, 117, 98, 108, 105, 99]⟩ : ByteArray), .string (⟨#[106, 111, 105, 110]⟩ : ByteArray), .string (⟨#[106, 111, 105, 110]⟩ : ByteArray), .string (⟨#[98, 97, 110]⟩ : ByteArray), .bool false, .bool false, .bool DK, .bool DB, .bool true] (fun W h => h.tail) rfl rfl (.tmp 21) (.tmp 132) rfl rfl rfl rfl (by simp [Value.oneCell']) rfl ?_
                          intro _ H2 st
                          replace HUr := hidp (HUr.out.stpN st hgu.out); clear st H
                          have H := H2
                          clear H2
                          simp only [Act.put, List.getElem_toArray, List.getElem_cons_zero, List.getElem_cons_succ, List.setIfInBounds_toArray, List.set_cons_zero, List.set_cons_succ]
                          refine NoPanic.normal ?_
                          go_wp2_with (first | (refine Mm.skipd 147 rfl _ _ rfl rfl ?_) | (refine Mm.skipd 148 rfl _ _ rfl rfl ?_) | (refine Mm.skipd 149 rfl _ _ rfl rfl ?_) | (refine Mm.skipd 150 rfl _ _ rfl rfl ?_) | (refine Mm.skipd 151 rfl _ _ rfl rfl ?_) | (refine Mm.get0 mvT H rfl (.tmp 21) rfl rfl rfl ?_) | (go_at_call 15; refine (ca1.out _).mono ?_; rintro e _ ⟨rfl, hb⟩; replace H := hidp (H.out.call hb); clear ca1; replace HUr := hidp (HUr.out.to hb); clear hb) | (refine Mm.putF0 H rfl 9 (.tmp 136) (.const (.string (⟨#[108, 101, 97, 118, 101]⟩ : ByteArray))) 3 (.string (⟨#[108, 101, 97, 118, 101]⟩ : ByteArray)) rfl rfl rfl (by kernel_rfl) rfl (of_decide_eq_true rfl) ?_; intro _ H2 st; replace HUr := hidp (HUr.out.stpN st hgu.out) ; clear st H; have H : Hid (Mm.M w.heap.size w _ ([⟨b21, 48, [.string (⟨#[112, 117, 98, 108, 105, 99]⟩ : ByteArray), .string (⟨#[106, 111, 105, 110]⟩ : ByteArray), .string (⟨#[106, 111, 105, 110]⟩ : ByteArray), .string (⟨#[108, 101, 97, 118, 101]⟩ : ByteArray), .bool false, .bool false, .bool DK, .bool DB, .bool true]⟩, ⟨b11, 40, [.int .i64 l2.a, .int .i64 l2.s, .int .i64 l2.i, .int .i64 l2.k, .int .i64 l2.b, .int .i64 l2.r, v2]⟩])) := H2; clear H2) | (refine Mm.get0 mvT H rfl (.tmp 21) rfl rfl rfl ?_) | (go_at_call 15; refine (ca2.out _).mono ?_; rintro e _ ⟨rfl, hb⟩; replace H := hidp (H.out.call hb); clear ca2; replace HUr := hidp (HUr.out.to hb); clear hb) | (refine Mm.get1 tyL H rfl (.tmp 11) rfl rfl rfl ?_) | (go_at_call 14; refine (co2c.out _ HUr.out).mono ?_; rintro e _ ⟨rfl, hb⟩; replace H := hidp (H.out.call hb); replace HUr := hidp (HUr.out.to hb); clear hb))
                          go_ret
                          exact ⟨rfl, H.out.below⟩
              · have e1 : decide ((i : Int) < (nb : Int)) = false := by simp; omega
                have co1 := hidp (fun W h => of_any W l2 v2 a h); have co2 := hidp (fun W h => of_any W l2 v2 b h)
                have ka := HM2.out a; have kb := HM2.out b
                obtain ⟨oa, hoa⟩ : ∃ z, ofL l2 a = z := ⟨_, rfl⟩
                obtain ⟨ob, hob⟩ : ∃ z, ofL l2 b = z := ⟨_, rfl⟩
                rw [hoa] at co1 ka; rw [hob] at co2 kb
                clear hoa hob
                have co1b := co1; have co2b := co2; have co2c := co2
                have d5 : decide (oa > m) = false := by simp; omega
                have n5 : ¬ m < oa := by omega
                have d6 : decide (ob > m) = false := by simp; omega
                have n6 : ¬ m < ob := by omega
                obtain ⟨DK, hDK⟩ : ∃ D, decide (l2.k ≤ oa) = D := ⟨_, rfl⟩
                have hDK2 : decide (oa ≥ l2.k) = DK := hDK
                obtain ⟨DB, hDB⟩ : ∃ D, decide (l2.b ≤ oa) = D := ⟨_, rfl⟩
                have hDB2 : decide (oa ≥ l2.b) = DB := hDB
                obtain ⟨AB, hAB⟩ : ∃ D, decide (ob < oa) = D := ⟨_, rfl⟩
                have hAB2 : decide (oa > ob) = AB := hAB
                have HHAB := hidp hAB
                clear ka kb
                have x1 := al_ab (⟨#[98, 97, 110]⟩ : ByteArray) (.inl rfl) DK DB; have x2 := al_ab (⟨#[108, 101, 97, 118, 101]⟩ : ByteArray) (.inr rfl) DK DB
                have ca1 := hidp (fun W => allowed_any W (⟨#[112, 117, 98, 108, 105, 99]⟩ : ByteArray) (⟨#[106, 111, 105, 110]⟩ : ByteArray) (⟨#[106, 111, 105, 110]⟩ : ByteArray) (⟨#[98, 97, 110]⟩ : ByteArray) false false DK DB AB); have ca2 := hidp (fun W => allowed_any W (⟨#[112, 117, 98, 108, 105, 99]⟩ : ByteArray) (⟨#[106, 111, 105, 110]⟩ : ByteArray) (⟨#[106, 111, 105, 110]⟩ : ByteArray) (⟨#[108, 101, 97, 118, 101]⟩ : ByteArray) false false DK DB AB)
                cases AB with
                | false =>
                  rw [x1] at ca1; rw [x2] at ca2
                  clear x1 x2 HHAB
                  go_wp2_with (first | (refine Mm.get0 tyL H rfl (.tmp 11) rfl rfl rfl ?_) | (go_at_call 14; refine (co1.out _ HUr.out).mono ?_; rintro e _ ⟨rfl, hb⟩; replace H := hidp (H.out.call hb); clear co1; replace HUr := hidp (HUr.out.to hb); clear hb) | (go_at_call 14; refine (co2.out _ HUr.out).mono ?_; rintro e _ ⟨rfl, hb⟩; replace H := hidp (H.out.call hb); clear co2; replace HUr := hidp (HUr.out.to hb); clear hb) | (go_at_call 14; refine (co1b.out _ HUr.out).mono ?_; rintro e _ ⟨rfl, hb⟩; replace H := hidp (H.out.call hb); clear co1b; replace HUr := hidp (HUr.out.to hb); clear hb))
                  refine Mm.region H (.take 0 (.take 1 (.take 2 (.take 3 (.take 4 (.take 5 (.take 6 (.take 7 (.take 8 (.take 9 (.take 10 (.two 11 (.take 12 (.take 13 (.one 14 (.one 15 .done)))) 14 (.one 11 (.take 12 (.take 13 (.one 15 .done)))))))))))))))) (by kernel_rfl) (by kernel_rfl) (by simp [Scr.depth]) (by kernel_rfl) ?_
                  clear H
                  intro _ H hb
                  replace HUr := hidp (HUr.out.to hb); clear hb
                  apply s_val
                  case ho => rfl
                  case hw => rfl
                  case hv => intro w hw; go_simp; first | done | with_reducible rfl | rfl
                  simp only [Act.put, List.getElem_toArray, List.getElem_cons_zero, List.getElem_cons_succ, List.setIfInBounds_toArray, List.set_cons_zero, List.set_cons_succ]
                  apply s_val
                  case ho => rfl
                  case hw => rfl
                  case hv => intro w hw; go_simp; first | done | with_reducible rfl | rfl
                  simp only [Act.put, List.getElem_toArray, List.getElem_cons_zero, List.getElem_cons_succ, List.setIfInBounds_toArray, List.set_cons_zero, List.set_cons_succ]
                  refine Mm.sld0 naI (fun w h => h) rfl rfl (.tmp 120) 4 (.int .i64 l2.b) rfl rfl rfl ?_
                  simp only [Act.put, List.getElem_toArray, List.getElem_cons_zero, List.getElem_cons_succ, List.setIfInBounds_toArray, List.set_cons_zero, List.set_cons_succ]
                  apply s_val
                  case ho => rfl
                  case hw => rfl
                  case hv => intro w hw; go_simp; first | done | with_reducible rfl | rfl
                  simp only [Act.put, List.getElem_toArray, List.getElem_cons_zero, List.getElem_cons_succ, List.setIfInBounds_toArray, List.set_cons_zero, List.set_cons_succ]
                  apply s_val
                  case ho => rfl
                  case hw => rfl
                  case hv => intro w hw; go_simp; first | done | with_reducible rfl | rfl
                  simp only [Act.put, List.getElem_toArray, List.getElem_cons_zero, List.getElem_cons_succ, List.setIfInBounds_toArray, List.set_cons_zero, List.set_cons_succ]
                  apply s_val
                  case ho => rfl
                  case hw => rfl
                  case hv => intro w hw; go_simp; first | done | with_reducible rfl | rfl
                  simp only [Act.put, List.getElem_toArray, List.getElem_cons_zero, List.getElem_cons_succ, List.setIfInBounds_toArray, List.set_cons_zero, List.set_cons_succ]
                  refine Mm.sld0 naI (fun w h => h) rfl rfl (.tmp 124) 3 (.int .i64 l2.k) rfl rfl rfl ?_
                  simp only [Act.put, List.getElem_toArray, List.getElem_cons_zero, List.getElem_cons_succ, List.setIfInBounds_toArray, List.set_cons_zero, List.set_cons_succ]
                  apply s_val
                  case ho => rfl
                  case hw => rfl
                  case hv => intro w hw; go_simp; first | done | with_reducible rfl | rfl
                  simp only [Act.put, List.getElem_toArray, List.getElem_cons_zero, List.getElem_cons_succ, List.setIfInBounds_toArray, List.set_cons_zero, List.set_cons_succ]
                  apply s_val
                  case ho => rfl
                  case hw => rfl
                  case hv => intro w hw; go_simp; first | done | with_reducible rfl | rfl
                  simp only [Act.put, List.getElem_toArray, List.getElem_cons_zero, List.getElem_cons_succ, List.setIfInBounds_toArray, List.set_cons_zero, List.set_cons_succ]
                  refine Mm.sget0 tyL (fun w h => h) rfl rfl (.tmp 11) rfl rfl rfl ?_
                  simp only [Act.put, List.getElem_toArray, List.getElem_cons_zero, List.getElem_cons_succ, List.setIfInBounds_toArray, List.set_cons_zero, List.set_cons_succ]
                  apply s_val
                  case ho => rfl
                  case hw => rfl
                  case hv => intro w hw; go_simp; first | done | with_reducible rfl | rfl
                  simp only [Act.put, List.getElem_toArray, List.getElem_cons_zero, List.getElem_cons_succ, List.setIfInBounds_toArray, List.set_cons_zero, List.set_cons_succ]
                  refine ⟨?_, ?_⟩
                  · refine Mm.o_callH (v := .int .i64 ob) H (fun W h => h) rfl rfl 14 (#[.agg #[.int .i64 l2.a, .int .i64 l2.s, .int .i64 l2.i, .int .i64 l2.k, .int .i64 l2.b, .int .i64 l2.r, v2], .string b]) (by go_simp; first | done | rfl) (co2b.out _ HUr.out) ?_
                    clear H
                    intro _ H hb
                    replace HUr := hidp (HUr.out.to hb); clear hb
                    simp only [Act.put, List.getElem_toArray, List.getElem_cons_zero, List.getElem_cons_succ, List.setIfInBounds_toArray, List.set_cons_zero, List.set_cons_succ]
                    apply s_val
                    case ho => rfl
                    case hw => rfl
                    case hv => intro w hw; go_simp; first | done | with_reducible rfl | rfl
                    simp only [Act.put, List.getElem_toArray, List.getElem_cons_zero, List.getElem_cons_succ, List.setIfInBounds_toArray, List.set_cons_zero, List.set_cons_succ]
                    apply s_val (v := .agg #[.string (⟨#[112, 117, 98, 108, 105, 99]⟩ : ByteArray), .string (⟨#[106, 111, 105, 110]⟩ : ByteArray), .string (⟨#[106, 111, 105, 110]⟩ : ByteArray), .string (⟨#[98, 97, 110]⟩ : ByteArray), .bool false, .bool false, .bool DK, .bool DB, .bool false])
                    case ho => rfl
                    case hw => rfl
                    case hv => intro w hw; go_simp; first | done | with_reducible rfl | rfl
                    simp only [Act.put, List.getElem_toArray, List.getElem_cons_zero, List.getElem_cons_succ, List.setIfInBounds_toArray, List.set_cons_zero, List.set_cons_succ]
                    refine Mm.o_newH mvT H (fun W h => h) rfl rfl rfl ?_
                    clear H
                    intro b21 _ H nw
                    have hb := nw.below
                    have hgu := hidp (show ∀ B o n c, v2 = Value.slice (some ⟨B, o, none⟩) n c → B ≠ b21 from fun B o n c h => Nat.ne_of_lt (Nat.lt_of_lt_of_le (HUr.out.ltB B o n c h) nw.le))
                    replace HUr := hidp (HUr.out.to hb); clear hb nw
                    simp only [Act.put, List.getElem_toArray, List.getElem_cons_zero, List.getElem_cons_succ, List.setIfInBounds_toArray, List.set_cons_zero, List.set_cons_succ]
                    refine Mm.oput0 mvT H [.string (⟨#[112, 117, 98, 108, 105, 99]⟩ : ByteArray), .string (⟨#[106, 111, 105, 110]⟩ : ByteArray), .string (⟨#[106, 111, 105, 110]⟩ : ByteArray), .string (⟨#[98, 97, 110]⟩ : ByteArray), .bool false, .bool false, .bool DK, .bool DB, .bool false] (fun W h => h.tail) rfl rfl (.tmp 21) (.tmp 132) rfl rfl rfl rfl (by simp [Value.oneCell']) rfl ?_
                    intro _ H2 st
                    replace HUr := hidp (HUr.out.stpN st hgu.out); clear st H
                    have H := H2
                    clear H2
                    simp only [Act.put, List.getElem_toArray, List.getElem_cons_zero, List.getElem_cons_succ, List.setIfInBounds_toArray, List.set_cons_zero, List.set_cons_succ]
                    refine NoPanic.normal ?_
                    go_wp2_with (first | (refine Mm.skipd 147 rfl _ _ rfl rfl ?_) | (refine Mm.skipd 148 rfl _ _ rfl rfl ?_) | (refine Mm.skipd 149 rfl _ _ rfl rfl ?_) | (refine Mm.skipd 150 rfl _ _ rfl rfl ?_) | (refine Mm.skipd 151 rfl _ _ rfl rfl ?_) | (refine Mm.get0 mvT H rfl (.tmp 21) rfl rfl rfl ?_) | (go_at_call 15; refine (ca1.out _).mono ?_; rintro e _ ⟨rfl, hb⟩; replace H := hidp (H.out.call hb); clear ca1; replace HUr := hidp (HUr.out.to hb); clear hb) | (refine Mm.putF0 H rfl 9 (.tmp 136) (.const (.string (⟨#[108, 101, 97, 118, 101]⟩ : ByteArray))) 3 (.string (⟨#[108, 101, 97, 118, 101]⟩ : ByteArray)) rfl rfl rfl (by kernel_rfl) rfl (of_decide_eq_true rfl) ?_; intro _ H2 st; replace HUr := hidp (HUr.out.stpN st hgu.out) ; clear st H; have H : Hid (Mm.M w.heap.size w _ ([⟨b21, 48, [.string (⟨#[112, 117, 98, 108, 105, 99]⟩ : ByteArray), .string (⟨#[106, 111, 105, 110]⟩ : ByteArray), .string (⟨#[106, 111, 105, 110]⟩ : ByteArray), .string (⟨#[108, 101, 97, 118, 101]⟩ : ByteArray), .bool false, .bool false, .bool DK, .bool DB, .bool false]⟩, ⟨b11, 40, [.int .i64 l2.a, .int .i64 l2.s, .int .i64 l2.i, .int .i64 l2.k, .int .i64 l2.b, .int .i64 l2.r, v2]⟩])) := H2; clear H2) | (refine Mm.get0 mvT H rfl (.tmp 21) rfl rfl rfl ?_) | (go_at_call 15; refine (ca2.out _).mono ?_; rintro e _ ⟨rfl, hb⟩; replace H := hidp (H.out.call hb); clear ca2; replace HUr := hidp (HUr.out.to hb); clear hb) | (refine Mm.get1 tyL H rfl (.tmp 11) rfl rfl rfl ?_) | (go_at_call 14; refine (co2c.out _ HUr.out).mono ?_; rintro e _ ⟨rfl, hb⟩; replace H := hidp (H.out.call hb); replace HUr := hidp (HUr.out.to hb); clear hb))
                    go_ret
                    exact ⟨rfl, H.out.below⟩
                  · refine Mm.o_newH mvT H (fun W h => h) rfl rfl rfl ?_
                    clear H
                    intro b21 _ H nw
                    have hb := nw.below
                    have hgu := hidp (show ∀ B o n c, v2 = Value.slice (some ⟨B, o, none⟩) n c → B ≠ b21 from fun B o n c h => Nat.ne_of_lt (Nat.lt_of_lt_of_le (HUr.out.ltB B o n c h) nw.le))
                    replace HUr := hidp (HUr.out.to hb); clear hb nw
                    simp only [Act.put, List.getElem_toArray, List.getElem_cons_zero, List.getElem_cons_succ, List.setIfInBounds_toArray, List.set_cons_zero, List.set_cons_succ]
                    refine Mm.o_callH (v := .int .i64 ob) H (fun W h => h.tail) rfl rfl 14 (#[.agg #[.int .i64 l2.a, .int .i64 l2.s, .int .i64 l2.i, .int .i64 l2.k, .int .i64 l2.b, .int .i64 l2.r, v2], .string b]) (by go_simp; first | done | rfl) (co2b.out _ HUr.out) ?_
                    clear H
                    intro _ H hb
                    replace HUr := hidp (HUr.out.to hb); clear hb
                    simp only [Act.put, List.getElem_toArray, List.getElem_cons_zero, List.getElem_cons_succ, List.setIfInBounds_toArray, List.set_cons_zero, List.set_cons_succ]
                    apply s_val
                    case ho => rfl
                    case hw => rfl
                    case hv => intro w hw; go_simp; first | done | with_reducible rfl | rfl
                    simp only [Act.put, List.getElem_toArray, List.getElem_cons_zero, List.getElem_cons_succ, List.setIfInBounds_toArray, List.set_cons_zero, List.set_cons_succ]
                    apply s_val (v := .agg #[.string (⟨#[112, 117, 98, 108, 105, 99]⟩ : ByteArray), .string (⟨#[106, 111, 105, 110]⟩ : ByteArray), .string (⟨#[106, 111, 105, 110]⟩ : ByteArray), .string (⟨#[98, 97, 110]⟩ : ByteArray), .bool false, .bool false, .bool DK, .bool DB, .bool false])
                    case ho => rfl
                    case hw => rfl
                    case hv => intro w hw; go_simp; first | done | with_reducible rfl | rfl
                    simp only [Act.put, List.getElem_toArray, List.getElem_cons_zero, List.getElem_cons_succ, List.setIfInBounds_toArray, List.set_cons_zero, List.set_cons_succ]
                    refine Mm.oput0 mvT H [.string (⟨#[112, 117, 98, 108, 105, 99]⟩ : ByteArray), .string (⟨#[106, 111, 105, 110]⟩ : ByteArray), .string (⟨#[106, 111, 105, 110]⟩ : ByteArray), .string (⟨#[98, 97, 110]⟩ : ByteArray), .bool false, .bool false, .bool DK, .bool DB, .bool false] (fun W h => h.tail) rfl rfl (.tmp 21) (.tmp 132) rfl rfl rfl rfl (by simp [Value.oneCell']) rfl ?_
                    intro _ H2 st
                    replace HUr := hidp (HUr.out.stpN st hgu.out); clear st H
                    have H := H2
                    clear H2
                    simp only [Act.put, List.getElem_toArray, List.getElem_cons_zero, List.getElem_cons_succ, List.setIfInBounds_toArray, List.set_cons_zero, List.set_cons_succ]
                    refine NoPanic.normal ?_
                    go_wp2_with (first | (refine Mm.skipd 147 rfl _ _ rfl rfl ?_) | (refine Mm.skipd 148 rfl _ _ rfl rfl ?_) | (refine Mm.skipd 149 rfl _ _ rfl rfl ?_) | (refine Mm.skipd 150 rfl _ _ rfl rfl ?_) | (refine Mm.skipd 151 rfl _ _ rfl rfl ?_) | (refine Mm.get0 mvT H rfl (.tmp 21) rfl rfl rfl ?_) | (go_at_call 15; refine (ca1.out _).mono ?_; rintro e _ ⟨rfl, hb⟩; replace H := hidp (H.out.call hb); clear ca1; replace HUr := hidp (HUr.out.to hb); clear hb) | (refine Mm.putF0 H rfl 9 (.tmp 136) (.const (.string (⟨#[108, 101, 97, 118, 101]⟩ : ByteArray))) 3 (.string (⟨#[108, 101, 97, 118, 101]⟩ : ByteArray)) rfl rfl rfl (by kernel_rfl) rfl (of_decide_eq_true rfl) ?_; intro _ H2 st; replace HUr := hidp (HUr.out.stpN st hgu.out) ; clear st H; have H : Hid (Mm.M w.heap.size w _ ([⟨b21, 48, [.string (⟨#[112, 117, 98, 108, 105, 99]⟩ : ByteArray), .string (⟨#[106, 111, 105, 110]⟩ : ByteArray), .string (⟨#[106, 111, 105, 110]⟩ : ByteArray), .string (⟨#[108, 101, 97, 118, 101]⟩ : ByteArray), .bool false, .bool false, .bool DK, .bool DB, .bool false]⟩, ⟨b11, 40, [.int .i64 l2.a, .int .i64 l2.s, .int .i64 l2.i, .int .i64 l2.k, .int .i64 l2.b, .int .i64 l2.r, v2]⟩])) := H2; clear H2) | (refine Mm.get0 mvT H rfl (.tmp 21) rfl rfl rfl ?_) | (go_at_call 15; refine (ca2.out _).mono ?_; rintro e _ ⟨rfl, hb⟩; replace H := hidp (H.out.call hb); clear ca2; replace HUr := hidp (HUr.out.to hb); clear hb) | (refine Mm.get1 tyL H rfl (.tmp 11) rfl rfl rfl ?_) | (go_at_call 14; refine (co2c.out _ HUr.out).mono ?_; rintro e _ ⟨rfl, hb⟩; replace H := hidp (H.out.call hb); replace HUr := hidp (HUr.out.to hb); clear hb))
                    go_ret
                    exact ⟨rfl, H.out.below⟩
                | true =>
                  clear x1 x2
                  obtain ⟨X1, hX1⟩ : ∃ X, alE (⟨#[112, 117, 98, 108, 105, 99]⟩ : ByteArray) (⟨#[106, 111, 105, 110]⟩ : ByteArray) (⟨#[106, 111, 105, 110]⟩ : ByteArray) (⟨#[98, 97, 110]⟩ : ByteArray) false false DK DB true = X := ⟨_, rfl⟩
                  obtain ⟨X2, hX2⟩ : ∃ X, alE (⟨#[112, 117, 98, 108, 105, 99]⟩ : ByteArray) (⟨#[106, 111, 105, 110]⟩ : ByteArray) (⟨#[106, 111, 105, 110]⟩ : ByteArray) (⟨#[108, 101, 97, 118, 101]⟩ : ByteArray) false false DK DB true = X := ⟨_, rfl⟩
                  rw [hX1] at ca1; rw [hX2] at ca2
                  clear hX1 hX2
                  cases hB1 : (X1 == 0) with
                  | true =>
                    go_wp2_with (first | (refine Mm.get0 tyL H rfl (.tmp 11) rfl rfl rfl ?_) | (go_at_call 14; refine (co1.out _ HUr.out).mono ?_; rintro e _ ⟨rfl, hb⟩; replace H := hidp (H.out.call hb); clear co1; replace HUr := hidp (HUr.out.to hb); clear hb) | (go_at_call 14; refine (co2.out _ HUr.out).mono ?_; rintro e _ ⟨rfl, hb⟩; replace H := hidp (H.out.call hb); clear co2; replace HUr := hidp (HUr.out.to hb); clear hb) | (go_at_call 14; refine (co1b.out _ HUr.out).mono ?_; rintro e _ ⟨rfl, hb⟩; replace H := hidp (H.out.call hb); clear co1b; replace HUr := hidp (HUr.out.to hb); clear hb))
                    refine Mm.region H (.take 0 (.take 1 (.take 2 (.take 3 (.take 4 (.take 5 (.take 6 (.take 7 (.take 8 (.take 9 (.take 10 (.two 11 (.take 12 (.take 13 (.one 14 (.one 15 .done)))) 14 (.one 11 (.take 12 (.take 13 (.one 15 .done)))))))))))))))) (by kernel_rfl) (by kernel_rfl) (by simp [Scr.depth]) (by kernel_rfl) ?_
                    clear H
                    intro _ H hb
                    replace HUr := hidp (HUr.out.to hb); clear hb
                    apply s_val
                    case ho => rfl
                    case hw => rfl
                    case hv => intro w hw; go_simp; first | done | with_reducible rfl | rfl
                    simp only [Act.put, List.getElem_toArray, List.getElem_cons_zero, List.getElem_cons_succ, List.setIfInBounds_toArray, List.set_cons_zero, List.set_cons_succ]
                    apply s_val
                    case ho => rfl
                    case hw => rfl
                    case hv => intro w hw; go_simp; first | done | with_reducible rfl | rfl
                    simp only [Act.put, List.getElem_toArray, List.getElem_cons_zero, List.getElem_cons_succ, List.setIfInBounds_toArray, List.set_cons_zero, List.set_cons_succ]
                    refine Mm.sld0 naI (fun w h => h) rfl rfl (.tmp 120) 4 (.int .i64 l2.b) rfl rfl rfl ?_
                    simp only [Act.put, List.getElem_toArray, List.getElem_cons_zero, List.getElem_cons_succ, List.setIfInBounds_toArray, List.set_cons_zero, List.set_cons_succ]
                    apply s_val
                    case ho => rfl
                    case hw => rfl
                    case hv => intro w hw; go_simp; first | done | with_reducible rfl | rfl
                    simp only [Act.put, List.getElem_toArray, List.getElem_cons_zero, List.getElem_cons_succ, List.setIfInBounds_toArray, List.set_cons_zero, List.set_cons_succ]
                    apply s_val
                    case ho => rfl
                    case hw => rfl
                    case hv => intro w hw; go_simp; first | done | with_reducible rfl | rfl
                    simp only [Act.put, List.getElem_toArray, List.getElem_cons_zero, List.getElem_cons_succ, List.setIfInBounds_toArray, List.set_cons_zero, List.set_cons_succ]
                    apply s_val
                    case ho => rfl
                    case hw => rfl
                    case hv => intro w hw; go_simp; first | done | with_reducible rfl | rfl
                    simp only [Act.put, List.getElem_toArray, List.getElem_cons_zero, List.getElem_cons_succ, List.setIfInBounds_toArray, List.set_cons_zero, List.set_cons_succ]
                    refine Mm.sld0 naI (fun w h => h) rfl rfl (.tmp 124) 3 (.int .i64 l2.k) rfl rfl rfl ?_
                    simp only [Act.put, List.getElem_toArray, List.getElem_cons_zero, List.getElem_cons_succ, List.setIfInBounds_toArray, List.set_cons_zero, List.set_cons_succ]
                    apply s_val
                    case ho => rfl
                    case hw => rfl
                    case hv => intro w hw; go_simp; first | done | with_reducible rfl | rfl
                    simp only [Act.put, List.getElem_toArray, List.getElem_cons_zero, List.getElem_cons_succ, List.setIfInBounds_toArray, List.set_cons_zero, List.set_cons_succ]
                    apply s_val
                    case ho => rfl
                    case hw => rfl
                    case hv => intro w hw; go_simp; first | done | with_reducible rfl | rfl
                    simp only [Act.put, List.getElem_toArray, List.getElem_cons_zero, List.getElem_cons_succ, List.setIfInBounds_toArray, List.set_cons_zero, List.set_cons_succ]
                    refine Mm.sget0 tyL (fun w h => h) rfl rfl (.tmp 11) rfl rfl rfl ?_
                    simp only [Act.put, List.getElem_toArray, List.getElem_cons_zero, List.getElem_cons_succ, List.setIfInBounds_toArray, List.set_cons_zero, List.set_cons_succ]
                    apply s_val
                    case ho => rfl
                    case hw => rfl
                    case hv => intro w hw; go_simp; first | done | with_reducible rfl | rfl
                    simp only [Act.put, List.getElem_toArray, List.getElem_cons_zero, List.getElem_cons_succ, List.setIfInBounds_toArray, List.set_cons_zero, List.set_cons_succ]
                    refine ⟨?_, ?_⟩
                    · refine Mm.o_callH (v := .int .i64 ob) H (fun W h => h) rfl rfl 14 (#[.agg #[.int .i64 l2.a, .int .i64 l2.s, .int .i64 l2.i, .int .i64 l2.k, .int .i64 l2.b, .int .i64 l2.r, v2], .string b]) (by go_simp; first | done | rfl) (co2b.out _ HUr.out) ?_
                      clear H
                      intro _ H hb
                      replace HUr := hidp (HUr.out.to hb); clear hb
                      simp only [Act.put, List.getElem_toArray, List.getElem_cons_zero, List.getElem_cons_succ, List.setIfInBounds_toArray, List.set_cons_zero, List.set_cons_succ]
                      apply s_val
                      case ho => rfl
                      case hw => rfl
                      case hv => intro w hw; go_simp; first | done | with_reducible rfl | rfl
                      simp only [Act.put, List.getElem_toArray, List.getElem_cons_zero, List.getElem_cons_succ, List.setIfInBounds_toArray, List.set_cons_zero, List.set_cons_succ]
                      apply s_val (v := .agg #[.string (⟨#[112, 117, 98, 108, 105, 99]⟩ : ByteArray), .string (⟨#[106, 111, 105, 110]⟩ : ByteArray), .string (⟨#[106, 111, 105, 110]⟩ : ByteArray), .string (⟨#[98, 97, 110]⟩ : ByteArray), .bool false, .bool false, .bool DK, .bool DB, .bool true])
                      case ho => rfl
                      case hw => rfl
                      case hv => intro w hw; go_simp; first | done | with_reducible rfl | rfl
                      simp only [Act.put, List.getElem_toArray, List.getElem_cons_zero, List.getElem_cons_succ, List.setIfInBounds_toArray, List.set_cons_zero, List.set_cons_succ]
                      refine Mm.o_newH mvT H (fun W h => h) rfl rfl rfl ?_
                      clear H
                      intro b21 _ H nw
                      have hb := nw.below
                      have hgu := hidp (show ∀ B o n c, v2 = Value.slice (some ⟨B, o, none⟩) n c → B ≠ b21 from fun B o n c h => Nat.ne_of_lt (Nat.lt_of_lt_of_le (HUr.out.ltB B o n c h) nw.le))
                      replace HUr := hidp (HUr.out.to hb); clear hb nw
                      simp only [Act.put, List.getElem_toArray, List.getElem_cons_zero, List.getElem_cons_succ, List.setIfInBounds_toArray, List.set_cons_zero, List.set_cons_succ]
                      refine Mm.oput0 mvT H [.string (⟨#[112, 117, 98, 108, 105, 99]⟩ : ByteArray), .string (⟨#[106, 111, 105, 110]⟩ : ByteArray), .string (⟨#[106, 111, 105, 110]⟩ : ByteArray), .string (⟨#[98, 97, 110]⟩ : ByteArray), .bool false, .bool false, .bool DK, .bool DB, .bool true] (fun W h => h.tail) rfl rfl (.tmp 21) (.tmp 132) rfl rfl rfl rfl (by simp [Value.oneCell']) rfl ?_
                      intro _ H2 st
                      replace HUr := hidp (HUr.out.stpN st hgu.out); clear st H
                      have H := H2
                      clear H2
                      simp only [Act.put, List.getElem_toArray, List.getElem_cons_zero, List.getElem_cons_succ, List.setIfInBounds_toArray, List.set_cons_zero, List.set_cons_succ]
                      refine NoPanic.normal ?_
                      go_wp2_with (first | (refine Mm.skipd 143 rfl _ _ rfl rfl ?_) | (refine Mm.skipd 144 rfl _ _ rfl rfl ?_) | (refine Mm.get0 mvT H rfl (.tmp 21) rfl rfl rfl ?_) | (go_at_call 15; refine (ca1.out _).mono ?_; rintro e _ ⟨rfl, hb⟩; replace H := hidp (H.out.call hb); clear ca1; replace HUr := hidp (HUr.out.to hb); clear hb) | (refine Mm.putF0 H rfl 9 (.tmp 136) (.const (.string (⟨#[108, 101, 97, 118, 101]⟩ : ByteArray))) 3 (.string (⟨#[108, 101, 97, 118, 101]⟩ : ByteArray)) rfl rfl rfl (by kernel_rfl) rfl (of_decide_eq_true rfl) ?_; intro _ H2 st; replace HUr := hidp (HUr.out.stpN st hgu.out) ; clear st H; have H : Hid (Mm.M w.heap.size w _ ([⟨b21, 48, [.string (⟨#[112, 117, 98, 108, 105, 99]⟩ : ByteArray), .string (⟨#[106, 111, 105, 110]⟩ : ByteArray), .string (⟨#[106, 111, 105, 110]⟩ : ByteArray), .string (⟨#[108, 101, 97, 118, 101]⟩ : ByteArray), .bool false, .bool false, .bool DK, .bool DB, .bool true]⟩, ⟨b11, 40, [.int .i64 l2.a, .int .i64 l2.s, .int .i64 l2.i, .int .i64 l2.k, .int .i64 l2.b, .int .i64 l2.r, v2]⟩])) := H2; clear H2) | (refine Mm.get0 mvT H rfl (.tmp 21) rfl rfl rfl ?_) | (go_at_call 15; refine (ca2.out _).mono ?_; rintro e _ ⟨rfl, hb⟩; replace H := hidp (H.out.call hb); clear ca2; replace HUr := hidp (HUr.out.to hb); clear hb) | (refine Mm.get1 tyL H rfl (.tmp 11) rfl rfl rfl ?_) | (go_at_call 14; refine (co2c.out _ HUr.out).mono ?_; rintro e _ ⟨rfl, hb⟩; replace H := hidp (H.out.call hb); replace HUr := hidp (HUr.out.to hb); clear hb))
                      go_ret
                      exact ⟨rfl, H.out.below⟩
                    · refine Mm.o_newH mvT H (fun W h => h) rfl rfl rfl ?_
                      clear H
                      intro b21 _ H nw
                      have hb := nw.below
                      have hgu := hidp (show ∀ B o n c, v2 = Value.slice (some ⟨B, o, none⟩) n c → B ≠ b21 from fun B o n c h => Nat.ne_of_lt (Nat.lt_of_lt_of_le (HUr.out.ltB B o n c h) nw.le))
                      replace HUr := hidp (HUr.out.to hb); clear hb nw
                      simp only [Act.put, List.getElem_toArray, List.getElem_cons_zero, List.getElem_cons_succ, List.setIfInBounds_toArray, List.set_cons_zero, List.set_cons_succ]
                      refine Mm.o_callH (v := .int .i64 ob) H (fun W h => h.tail) rfl rfl 14 (#[.agg #[.int .i64 l2.a, .int .i64 l2.s, .int .i64 l2.i, .int .i64 l2.k, .int .i64 l2.b, .int .i64 l2.r, v2], .string b]) (by go_simp; first | done | rfl) (co2b.out _ HUr.out) ?_
                      clear H
                      intro _ H hb
                      replace HUr := hidp (HUr.out.to hb); clear hb
                      simp only [Act.put, List.getElem_toArray, List.getElem_cons_zero, List.getElem_cons_succ, List.setIfInBounds_toArray, List.set_cons_zero, List.set_cons_succ]
                      apply s_val
                      case ho => rfl
                      case hw => rfl
                      case hv => intro w hw; go_simp; first | done | with_reducible rfl | rfl
                      simp only [Act.put, List.getElem_toArray, List.getElem_cons_zero, List.getElem_cons_succ, List.setIfInBounds_toArray, List.set_cons_zero, List.set_cons_succ]
                      apply s_val (v := .agg #[.string (⟨#[112, 117, 98, 108, 105, 99]⟩ : ByteArray), .string (⟨#[106, 111, 105, 110]⟩ : ByteArray), .string (⟨#[106, 111, 105, 110]⟩ : ByteArray), .string (⟨#[98, 97, 110]⟩ : ByteArray), .bool false, .bool false, .bool DK, .bool DB, .bool true])
                      case ho => rfl
                      case hw => rfl
                      case hv => intro w hw; go_simp; first | done | with_reducible rfl | rfl
                      simp only [Act.put, List.getElem_toArray, List.getElem_cons_zero, List.getElem_cons_succ, List.setIfInBounds_toArray, List.set_cons_zero, List.set_cons_succ]
                      refine Mm.oput0 mvT H [.string (⟨#[112, 117, 98, 108, 105, 99]⟩ : ByteArray), .string (⟨#[106, 111, 105, 110]⟩ : ByteArray), .string (⟨#[106, 111, 105, 110]⟩ : ByteArray), .string (⟨#[98, 97, 110]⟩ : ByteArray), .bool false, .bool false, .bool DK, .bool DB, .bool true] (fun W h => h.tail) rfl rfl (.tmp 21) (.tmp 132) rfl rfl rfl rfl (by simp [Value.oneCell']) rfl ?_
                      intro _ H2 st
                      replace HUr := hidp (HUr.out.stpN st hgu.out); clear st H
                      have H := H2
                      clear H2
                      simp only [Act.put, List.getElem_toArray, List.getElem_cons_zero, List.getElem_cons_succ, List.setIfInBounds_toArray, List.set_cons_zero, List.set_cons_succ]
                      refine NoPanic.normal ?_
                      go_wp2_with (first | (refine Mm.skipd 143 rfl _ _ rfl rfl ?_) | (refine Mm.skipd 144 rfl _ _ rfl rfl ?_) | (refine Mm.get0 mvT H rfl (.tmp 21) rfl rfl rfl ?_) | (go_at_call 15; refine (ca1.out _).mono ?_; rintro e _ ⟨rfl, hb⟩; replace H := hidp (H.out.call hb); clear ca1; replace HUr := hidp (HUr.out.to hb); clear hb) | (refine Mm.putF0 H rfl 9 (.tmp 136) (.const (.string (⟨#[108, 101, 97, 118, 101]⟩ : ByteArray))) 3 (.string (⟨#[108, 101, 97, 118, 101]⟩ : ByteArray)) rfl rfl rfl (by kernel_rfl) rfl (of_decide_eq_true rfl) ?_; intro _ H2 st; replace HUr := hidp (HUr.out.stpN st hgu.out) ; clear st H; have H : Hid (Mm.M w.heap.size w _ ([⟨b21, 48, [.string (⟨#[112, 117, 98, 108, 105, 99]⟩ : ByteArray), .string (⟨#[106, 111, 105, 110]⟩ : ByteArray), .string (⟨#[106, 111, 105, 110]⟩ : ByteArray), .string (⟨#[108, 101, 97, 118, 101]⟩ : ByteArray), .bool false, .bool false, .bool DK, .bool DB, .bool true]⟩, ⟨b11, 40, [.int .i64 l2.a, .int .i64 l2.s, .int .i64 l2.i, .int .i64 l2.k, .int .i64 l2.b, .int .i64 l2.r, v2]⟩])) := H2; clear H2) | (refine Mm.get0 mvT H rfl (.tmp 21) rfl rfl rfl ?_) | (go_at_call 15; refine (ca2.out _).mono ?_; rintro e _ ⟨rfl, hb⟩; replace H := hidp (H.out.call hb); clear ca2; replace HUr := hidp (HUr.out.to hb); clear hb) | (refine Mm.get1 tyL H rfl (.tmp 11) rfl rfl rfl ?_) | (go_at_call 14; refine (co2c.out _ HUr.out).mono ?_; rintro e _ ⟨rfl, hb⟩; replace H := hidp (H.out.call hb); replace HUr := hidp (HUr.out.to hb); clear hb))
                      go_ret
                      exact ⟨rfl, H.out.below⟩
                  | false =>
                    cases hB2 : (X2 == 0) with
                    | true =>
                      go_wp2_with (first | (refine Mm.get0 tyL H rfl (.tmp 11) rfl rfl rfl ?_) | (go_at_call 14; refine (co1.out _ HUr.out).mono ?_; rintro e _ ⟨rfl, hb⟩; replace H := hidp (H.out.call hb); clear co1; replace HUr := hidp (HUr.out.to hb); clear hb) | (go_at_call 14; refine (co2.out _ HUr.out).mono ?_; rintro e _ ⟨rfl, hb⟩; replace H := hidp (H.out.call hb); clear co2; replace HUr := hidp (HUr.out.to hb); clear hb) | (go_at_call 14; refine (co1b.out _ HUr.out).mono ?_; rintro e _ ⟨rfl, hb⟩; replace H := hidp (H.out.call hb); clear co1b; replace HUr := hidp (HUr.out.to hb); clear hb))
                      refine Mm.region H (.take 0 (.take 1 (.take 2 (.take 3 (.take 4 (.take 5 (.take 6 (.take 7 (.take 8 (.take 9 (.take 10 (.two 11 (.take 12 (.take 13 (.one 14 (.one 15 .done)))) 14 (.one 11 (.take 12 (.take 13 (.one 15 .done)))))))))))))))) (by kernel_rfl) (by kernel_rfl) (by simp [Scr.depth]) (by kernel_rfl) ?_
                      clear H
                      intro _ H hb
                      replace HUr := hidp (HUr.out.to hb); clear hb
                      apply s_val
                      case ho => rfl
                      case hw => rfl
                      case hv => intro w hw; go_simp; first | done | with_reducible rfl | rfl
                      simp only [Act.put, List.getElem_toArray, List.getElem_cons_zero, List.getElem_cons_succ, List.setIfInBounds_toArray, List.set_cons_zero, List.set_cons_succ]
                      apply s_val
                      case ho => rfl
                      case hw => rfl
                      case hv => intro w hw; go_simp; first | done | with_reducible rfl | rfl
                      simp only [Act.put, List.getElem_toArray, List.getElem_cons_zero, List.getElem_cons_succ, List.setIfInBounds_toArray, List.set_cons_zero, List.set_cons_succ]
                      refine Mm.sld0 naI (fun w h => h) rfl rfl (.tmp 120) 4 (.int .i64 l2.b) rfl rfl rfl ?_
                      simp only [Act.put, List.getElem_toArray, List.getElem_cons_zero, List.getElem_cons_succ, List.setIfInBounds_toArray, List.set_cons_zero, List.set_cons_succ]
                      apply s_val
                      case ho => rfl
                      case hw => rfl
                      case hv => intro w hw; go_simp; first | done | with_reducible rfl | rfl
                      simp only [Act.put, List.getElem_toArray, List.getElem_cons_zero, List.getElem_cons_succ, List.setIfInBounds_toArray, List.set_cons_zero, List.set_cons_succ]
                      apply s_val
                      case ho => rfl
                      case hw => rfl
                      case hv => intro w hw; go_simp; first | done | with_reducible rfl | rfl
                      simp only [Act.put, List.getElem_toArray, List.getElem_cons_zero, List.getElem_cons_succ, List.setIfInBounds_toArray, List.set_cons_zero, List.set_cons_succ]
                      apply s_val
                      case ho => rfl
                      case hw => rfl
                      case hv => intro w hw; go_simp; first | done | with_reducible rfl | rfl
                      simp only [Act.put, List.getElem_toArray, List.getElem_cons_zero, List.getElem_cons_succ, List.setIfInBounds_toArray, List.set_cons_zero, List.set_cons_succ]
                      refine Mm.sld0 naI (fun w h => h) rfl rfl (.tmp 124) 3 (.int .i64 l2.k) rfl rfl rfl ?_
                      simp only [Act.put, List.getElem_toArray, List.getElem_cons_zero, List.getElem_cons_succ, List.setIfInBounds_toArray, List.set_cons_zero, List.set_cons_succ]
                      apply s_val
                      case ho => rfl
                      case hw => rfl
                      case hv => intro w hw; go_simp; first | done | with_reducible rfl | rfl
                      simp only [Act.put, List.getElem_toArray, List.getElem_cons_zero, List.getElem_cons_succ, List.setIfInBounds_toArray, List.set_cons_zero, List.set_cons_succ]
                      apply s_val
                      case ho => rfl
                      case hw => rfl
                      case hv => intro w hw; go_simp; first | done | with_reducible rfl | rfl
                      simp only [Act.put, List.getElem_toArray, List.getElem_cons_zero, List.getElem_cons_succ, List.setIfInBounds_toArray, List.set_cons_zero, List.set_cons_succ]
                      refine Mm.sget0 tyL (fun w h => h) rfl rfl (.tmp 11) rfl rfl rfl ?_
                      simp only [Act.put, List.getElem_toArray, List.getElem_cons_zero, List.getElem_cons_succ, List.setIfInBounds_toArray, List.set_cons_zero, List.set_cons_succ]
                      apply s_val
                      case ho => rfl
                      case hw => rfl
                      case hv => intro w hw; go_simp; first | done | with_reducible rfl | rfl
                      simp only [Act.put, List.getElem_toArray, List.getElem_cons_zero, List.getElem_cons_succ, List.setIfInBounds_toArray, List.set_cons_zero, List.set_cons_succ]
                      refine ⟨?_, ?_⟩
                      · refine Mm.o_callH (v := .int .i64 ob) H (fun W h => h) rfl rfl 14 (#[.agg #[.int .i64 l2.a, .int .i64 l2.s, .int .i64 l2.i, .int .i64 l2.k, .int .i64 l2.b, .int .i64 l2.r, v2], .string b]) (by go_simp; first | done | rfl) (co2b.out _ HUr.out) ?_
                        clear H
                        intro _ H hb
                        replace HUr := hidp (HUr.out.to hb); clear hb
                        simp only [Act.put, List.getElem_toArray, List.getElem_cons_zero, List.getElem_cons_succ, List.setIfInBounds_toArray, List.set_cons_zero, List.set_cons_succ]
                        apply s_val
                        case ho => rfl
                        case hw => rfl
                        case hv => intro w hw; go_simp; first | done | with_reducible rfl | rfl
                        simp only [Act.put, List.getElem_toArray, List.getElem_cons_zero, List.getElem_cons_succ, List.setIfInBounds_toArray, List.set_cons_zero, List.set_cons_succ]
                        apply s_val (v := .agg #[.string (⟨#[112, 117, 98, 108, 105, 99]⟩ : ByteArray), .string (⟨#[106, 111, 105, 110]⟩ : ByteArray), .string (⟨#[106, 111, 105, 110]⟩ : ByteArray), .string (⟨#[98, 97, 110]⟩ : ByteArray), .bool false, .bool false, .bool DK, .bool DB, .bool true])
                        case ho => rfl
                        case hw => rfl
                        case hv => intro w hw; go_simp; first | done | with_reducible rfl | rfl
                        simp only [Act.put, List.getElem_toArray, List.getElem_cons_zero, List.getElem_cons_succ, List.setIfInBounds_toArray, List.set_cons_zero, List.set_cons_succ]
                        refine Mm.o_newH mvT H (fun W h => h) rfl rfl rfl ?_
                        clear H
                        intro b21 _ H nw
                        have hb := nw.below
                        have hgu := hidp (show ∀ B o n c, v2 = Value.slice (some ⟨B, o, none⟩) n c → B ≠ b21 from fun B o n c h => Nat.ne_of_lt (Nat.lt_of_lt_of_le (HUr.out.ltB B o n c h) nw.le))
                        replace HUr := hidp (HUr.out.to hb); clear hb nw
                        simp only [Act.put, List.getElem_toArray, List.getElem_cons_zero, List.getElem_cons_succ, List.setIfInBounds_toArray, List.set_cons_zero, List.set_cons_succ]
                        refine Mm.oput0 mvT H [.string (⟨#[112, 117, 98, 108, 105, 99]⟩ : ByteArray), .string (⟨#[106, 111, 105, 110]⟩ : ByteArray), .string (⟨#[106, 111, 105, 110]⟩ : ByteArray), .string (⟨#[98, 97, 110]⟩ : ByteArray), .bool false, .bool false, .bool DK, .bool DB, .bool true] (fun W h => h.tail) rfl rfl (.tmp 21) (.tmp 132) rfl rfl rfl rfl (by simp [Value.oneCell']) rfl ?_
                        intro _ H2 st
                        replace HUr := hidp (HUr.out.stpN st hgu.out); clear st H
                        have H := H2
                        clear H2
                        simp only [Act.put, List.getElem_toArray, List.getElem_cons_zero, List.getElem_cons_succ, List.setIfInBounds_toArray, List.set_cons_zero, List.set_cons_succ]
                        refine NoPanic.normal ?_
                        go_wp2_with (first | (refine Mm.get0 mvT H rfl (.tmp 21) rfl rfl rfl ?_) | (go_at_call 15; refine (ca1.out _).mono ?_; rintro e _ ⟨rfl, hb⟩; replace H := hidp (H.out.call hb); clear ca1; replace HUr := hidp (HUr.out.to hb); clear hb) | (refine Mm.putF0 H rfl 9 (.tmp 136) (.const (.string (⟨#[108, 101, 97, 118, 101]⟩ : ByteArray))) 3 (.string (⟨#[108, 101, 97, 118, 101]⟩ : ByteArray)) rfl rfl rfl (by kernel_rfl) rfl (of_decide_eq_true rfl) ?_; intro _ H2 st; replace HUr := hidp (HUr.out.stpN st hgu.out) ; clear st H; have H : Hid (Mm.M w.heap.size w _ ([⟨b21, 48, [.string (⟨#[112, 117, 98, 108, 105, 99]⟩ : ByteArray), .string (⟨#[106, 111, 105, 110]⟩ : ByteArray), .string (⟨#[106, 111, 105, 110]⟩ : ByteArray), .string (⟨#[108, 101, 97, 118, 101]⟩ : ByteArray), .bool false, .bool false, .bool DK, .bool DB, .bool true]⟩, ⟨b11, 40, [.int .i64 l2.a, .int .i64 l2.s, .int .i64 l2.i, .int .i64 l2.k, .int .i64 l2.b, .int .i64 l2.r, v2]⟩])) := H2; clear H2) | (refine Mm.get0 mvT H rfl (.tmp 21) rfl rfl rfl ?_) | (go_at_call 15; refine (ca2.out _).mono ?_; rintro e _ ⟨rfl, hb⟩; replace H := hidp (H.out.call hb); clear ca2; replace HUr := hidp (HUr.out.to hb); clear hb) | (refine Mm.get1 tyL H rfl (.tmp 11) rfl rfl rfl ?_) | (go_at_call 14; refine (co2c.out _ HUr.out).mono ?_; rintro e _ ⟨rfl, hb⟩; replace H := hidp (H.out.call hb); replace HUr := hidp (HUr.out.to hb); clear hb))
                        go_ret
                        exact ⟨rfl, H.out.below⟩
                      · refine Mm.o_newH mvT H (fun W h => h) rfl rfl rfl ?_
                        clear H
                        intro b21 _ H nw
                        have hb := nw.below
                        have hgu := hidp (show ∀ B o n c, v2 = Value.slice (some ⟨B, o, none⟩) n c → B ≠ b21 from fun B o n c h => Nat.ne_of_lt (Nat.lt_of_lt_of_le (HUr.out.ltB B o n c h) nw.le))
                        replace HUr := hidp (HUr.out.to hb); clear hb nw
                        simp only [Act.put, List.getElem_toArray, List.getElem_cons_zero, List.getElem_cons_succ, List.setIfInBounds_toArray, List.set_cons_zero, List.set_cons_succ]
                        refine Mm.o_callH (v := .int .i64 ob) H (fun W h => h.tail) rfl rfl 14 (#[.agg #[.int .i64 l2.a, .int .i64 l2.s, .int .i64 l2.i, .int .i64 l2.k, .int .i64 l2.b, .int .i64 l2.r, v2], .string b]) (by go_simp; first | done | rfl) (co2b.out _ HUr.out) ?_
                        clear H
                        intro _ H hb
                        replace HUr := hidp (HUr.out.to hb); clear hb
                        simp only [Act.put, List.getElem_toArray, List.getElem_cons_zero, List.getElem_cons_succ, List.setIfInBounds_toArray, List.set_cons_zero, List.set_cons_succ]
                        apply s_val
                        case ho => rfl
                        case hw => rfl
                        case hv => intro w hw; go_simp; first | done | with_reducible rfl | rfl
                        simp only [Act.put, List.getElem_toArray, List.getElem_cons_zero, List.getElem_cons_succ, List.setIfInBounds_toArray, List.set_cons_zero, List.set_cons_succ]
                        apply s_val (v := .agg #[.string (⟨#[112, 117, 98, 108, 105, 99]⟩ : ByteArray), .string (⟨#[106, 111, 105, 110]⟩ : ByteArray), .string (⟨#[106, 111, 105, 110]⟩ : ByteArray), .string (⟨#[98, 97, 110]⟩ : ByteArray), .bool false, .bool false, .bool DK, .bool DB, .bool true])
                        case ho => rfl
                        case hw => rfl
                        case hv => intro w hw; go_simp; first | done | with_reducible rfl | rfl
                        simp only [Act.put, List.getElem_toArray, List.getElem_cons_zero, List.getElem_cons_succ, List.setIfInBounds_toArray, List.set_cons_zero, List.set_cons_succ]
                        refine Mm.oput0 mvT H [.string (⟨#[112, 117, 98, 108, 105, 99]⟩ : ByteArray), .string (⟨#[106, 111, 105, 110]⟩ : ByteArray), .string (⟨#[106, 111, 105, 110]⟩ : ByteArray), .string (⟨#[98, 97, 110]⟩ : ByteArray), .bool false, .bool false, .bool DK, .bool DB, .bool true] (fun W h => h.tail) rfl rfl (.tmp 21) (.tmp 132) rfl rfl rfl rfl (by simp [Value.oneCell']) rfl ?_
                        intro _ H2 st
                        replace HUr := hidp (HUr.out.stpN st hgu.out); clear st H
                        have H := H2
                        clear H2
                        simp only [Act.put, List.getElem_toArray, List.getElem_cons_zero, List.getElem_cons_succ, List.setIfInBounds_toArray, List.set_cons_zero, List.set_cons_succ]
                        refine NoPanic.normal ?_
                        go_wp2_with (first | (refine Mm.get0 mvT H rfl (.tmp 21) rfl rfl rfl ?_) | (go_at_call 15; refine (ca1.out _).mono ?_; rintro e _ ⟨rfl, hb⟩; replace H := hidp (H.out.call hb); clear ca1; replace HUr := hidp (HUr.out.to hb); clear hb) | (refine Mm.putF0 H rfl 9 (.tmp 136) (.const (.string (⟨#[108, 101, 97, 118, 101]⟩ : ByteArray))) 3 (.string (⟨#[108, 101, 97, 118, 101]⟩ : ByteArray)) rfl rfl rfl (by kernel_rfl) rfl (of_decide_eq_true rfl) ?_; intro _ H2 st; replace HUr := hidp (HUr.out.stpN st hgu.out) ; clear st H; have H : Hid (Mm.M w.heap.size w _ ([⟨b21, 48, [.string (⟨#[112, 117, 98, 108, 105, 99]⟩ : ByteArray), .string (⟨#[106, 111, 105, 110]⟩ : ByteArray), .string (⟨#[106, 111, 105, 110]⟩ : ByteArray), .string (⟨#[108, 101, 97, 118, 101]⟩ : ByteArray), .bool false, .bool false, .bool DK, .bool DB, .bool true]⟩, ⟨b11, 40, [.int .i64 l2.a, .int .i64 l2.s, .int .i64 l2.i, .int .i64 l2.k, .int .i64 l2.b, .int .i64 l2.r, v2]⟩])) := H2; clear H2) | (refine Mm.get0 mvT H rfl (.tmp 21) rfl rfl rfl ?_) | (go_at_call 15; refine (ca2.out _).mono ?_; rintro e _ ⟨rfl, hb⟩; replace H := hidp (H.out.call hb); clear ca2; replace HUr := hidp (HUr.out.to hb); clear hb) | (refine Mm.get1 tyL H rfl (.tmp 11) rfl rfl rfl ?_) | (go_at_call 14; refine (co2c.out _ HUr.out).mono ?_; rintro e _ ⟨rfl, hb⟩; replace H := hidp (H.out.call hb); replace HUr := hidp (HUr.out.to hb); clear hb))
                        go_ret
                        exact ⟨rfl, H.out.below⟩
                    | false =>
                      go_wp2_with (first | (refine Mm.get0 tyL H rfl (.tmp 11) rfl rfl rfl ?_) | (go_at_call 14; refine (co1.out _ HUr.out).mono ?_; rintro e _ ⟨rfl, hb⟩; replace H := hidp (H.out.call hb); clear co1; replace HUr := hidp (HUr.out.to hb); clear hb) | (go_at_call 14; refine (co2.out _ HUr.out).mono ?_; rintro e _ ⟨rfl, hb⟩; replace H := hidp (H.out.call hb); clear co2; replace HUr := hidp (HUr.out.to hb); clear hb) | (go_at_call 14; refine (co1b.out _ HUr.out).mono ?_; rintro e _ ⟨rfl, hb⟩; replace H := hidp (H.out.call hb); clear co1b; replace HUr := hidp (HUr.out.to hb); clear hb))
                      refine Mm.region H (.take 0 (.take 1 (.take 2 (.take 3 (.take 4 (.take 5 (.take 6 (.take 7 (.take 8 (.take 9 (.take 10 (.two 11 (.take 12 (.take 13 (.one 14 (.one 15 .done)))) 14 (.one 11 (.take 12 (.take 13 (.one 15 .done)))))))))))))))) (by kernel_rfl) (by kernel_rfl) (by simp [Scr.depth]) (by kernel_rfl) ?_
                      clear H
                      intro _ H hb
                      replace HUr := hidp (HUr.out.to hb); clear hb
                      apply s_val
                      case ho => rfl
                      case hw => rfl
                      case hv => intro w hw; go_simp; first | done | with_reducible rfl | rfl
                      simp only [Act.put, List.getElem_toArray, List.getElem_cons_zero, List.getElem_cons_succ, List.setIfInBounds_toArray, List.set_cons_zero, List.set_cons_succ]
                      apply s_val
                      case ho => rfl
                      case hw => rfl
                      case hv => intro w hw; go_simp; first | done | with_reducible rfl | rfl
                      simp only [Act.put, List.getElem_toArray, List.getElem_cons_zero, List.getElem_cons_succ, List.setIfInBounds_toArray, List.set_cons_zero, List.set_cons_succ]
                      refine Mm.sld0 naI (fun w h => h) rfl rfl (.tmp 120) 4 (.int .i64 l2.b) rfl rfl rfl ?_
                      simp only [Act.put, List.getElem_toArray, List.getElem_cons_zero, List.getElem_cons_succ, List.setIfInBounds_toArray, List.set_cons_zero, List.set_cons_succ]
                      apply s_val
                      case ho => rfl
                      case hw => rfl
                      case hv => intro w hw; go_simp; first | done | with_reducible rfl | rfl
                      simp only [Act.put, List.getElem_toArray, List.getElem_cons_zero, List.getElem_cons_succ, List.setIfInBounds_toArray, List.set_cons_zero, List.set_cons_succ]
                      apply s_val
                      case ho => rfl
                      case hw => rfl
                      case hv => intro w hw; go_simp; first | done | with_reducible rfl | rfl
                      simp only [Act.put, List.getElem_toArray, List.getElem_cons_zero, List.getElem_cons_succ, List.setIfInBounds_toArray, List.set_cons_zero, List.set_cons_succ]
                      apply s_val
                      case ho => rfl
                      case hw => rfl
                      case hv => intro w hw; go_simp; first | done | with_reducible rfl | rfl
                      simp only [Act.put, List.getElem_toArray, List.getElem_cons_zero, List.getElem_cons_succ, List.setIfInBounds_toArray, List.set_cons_zero, List.set_cons_succ]
                      refine Mm.sld0 naI (fun w h => h) rfl rfl (.tmp 124) 3 (.int .i64 l2.k) rfl rfl rfl ?_
                      simp only [Act.put, List.getElem_toArray, List.getElem_cons_zero, List.getElem_cons_succ, List.setIfInBounds_toArray, List.set_cons_zero, List.set_cons_succ]
                      apply s_val
                      case ho => rfl
                      case hw => rfl
                      case hv => intro w hw; go_simp; first | done | with_reducible rfl | rfl
                      simp only [Act.put, List.getElem_toArray, List.getElem_cons_zero, List.getElem_cons_succ, List.setIfInBounds_toArray, List.set_cons_zero, List.set_cons_succ]
                      apply s_val
                      case ho => rfl
                      case hw => rfl
                      case hv => intro w hw; go_simp; first | done | with_reducible rfl | rfl
                      simp only [Act.put, List.getElem_toArray, List.getElem_cons_zero, List.getElem_cons_succ, List.setIfInBounds_toArray, List.set_cons_zero, List.set_cons_succ]
                      refine Mm.sget0 tyL (fun w h => h) rfl rfl (.tmp 11) rfl rfl rfl ?_
                      simp only [Act.put, List.getElem_toArray, List.getElem_cons_zero, List.getElem_cons_succ, List.setIfInBounds_toArray, List.set_cons_zero, List.set_cons_succ]
                      apply s_val
                      case ho => rfl
                      case hw => rfl
                      case hv => intro w hw; go_simp; first | done | with_reducible rfl | rfl
                      simp only [Act.put, List.getElem_toArray, List.getElem_cons_zero, List.getElem_cons_succ, List.setIfInBounds_toArray, List.set_cons_zero, List.set_cons_succ]
                      refine ⟨?_, ?_⟩
                      · refine Mm.o_callH (v := .int .i64 ob) H (fun W h => h) rfl rfl 14 (#[.agg #[.int .i64 l2.a, .int .i64 l2.s, .int .i64 l2.i, .int .i64 l2.k, .int .i64 l2.b, .int .i64 l2.r, v2], .string b]) (by go_simp; first | done | rfl) (co2b.out _ HUr.out) ?_
                        clear H
                        intro _ H hb
                        replace HUr := hidp (HUr.out.to hb); clear hb
                        simp only [Act.put, List.getElem_toArray, List.getElem_cons_zero, List.getElem_cons_succ, List.setIfInBounds_toArray, List.set_cons_zero, List.set_cons_succ]
                        apply s_val
                        case ho => rfl
                        case hw => rfl
                        case hv => intro w hw; go_simp; first | done | with_reducible rfl | rfl
                        simp only [Act.put, List.getElem_toArray, List.getElem_cons_zero, List.getElem_cons_succ, List.setIfInBounds_toArray, List.set_cons_zero, List.set_cons_succ]
                        apply s_val (v := .agg #[.string (⟨#[112, 117, 98, 108, 105, 99]⟩ : ByteArray), .string (⟨#[106, 111, 105, 110]⟩ : ByteArray), .string (⟨#[106, 111, 105, 110]⟩ : ByteArray), .string (⟨#[98, 97, 110]⟩ : ByteArray), .bool false, .bool false, .bool DK, .bool DB, .bool true])
                        case ho => rfl
                        case hw => rfl
                        case hv => intro w hw; go_simp; first | done | with_reducible rfl | rfl
                        simp only [Act.put, List.getElem_toArray, List.getElem_cons_zero, List.getElem_cons_succ, List.setIfInBounds_toArray, List.set_cons_zero, List.set_cons_succ]
                        refine Mm.o_newH mvT H (fun W h => h) rfl rfl rfl ?_
                        clear H
                        intro b21 _ H nw
                        have hb := nw.below
                        have hgu := hidp (show ∀ B o n c, v2 = Value.slice (some ⟨B, o, none⟩) n c → B ≠ b21 from fun B o n c h => Nat.ne_of_lt (Nat.lt_of_lt_of_le (HUr.out.ltB B o n c h) nw.le))
                        replace HUr := hidp (HUr.out.to hb); clear hb nw
                        simp only [Act.put, List.getElem_toArray, List.getElem_cons_zero, List.getElem_cons_succ, List.setIfInBounds_toArray, List.set_cons_zero, List.set_cons_succ]
                        refine Mm.oput0 mvT H [.string (⟨#[112, 117, 98, 108, 105, 99]⟩ : ByteArray), .string (⟨#[106, 111, 105, 110]⟩ : ByteArray), .string (⟨#[106, 111, 105, 110]⟩ : ByteArray), .string (⟨#[98, 97, 110]⟩ : ByteArray), .bool false, .bool false, .bool DK, .bool DB, .bool true] (fun W h => h.tail) rfl rfl (.tmp 21) (.tmp 132) rfl rfl rfl rfl (by simp [Value.oneCell']) rfl ?_
                        intro _ H2 st
                        replace HUr := hidp (HUr.out.stpN st hgu.out); clear st H
                        have H := H2
                        clear H2
                        simp only [Act.put, List.getElem_toArray, List.getElem_cons_zero, List.getElem_cons_succ, List.setIfInBounds_toArray, List.set_cons_zero, List.set_cons_succ]
                        refine NoPanic.normal ?_
                        go_wp2_with (first | (refine Mm.skipd 147 rfl _ _ rfl rfl ?_) | (refine Mm.skipd 148 rfl _ _ rfl rfl ?_) | (refine Mm.skipd 149 rfl _ _ rfl rfl ?_) | (refine Mm.skipd 150 rfl _ _ rfl rfl ?_) | (refine Mm.skipd 151 rfl _ _ rfl rfl ?_) | (refine Mm.get0 mvT H rfl (.tmp 21) rfl rfl rfl ?_) | (go_at_call 15; refine (ca1.out _).mono ?_; rintro e _ ⟨rfl, hb⟩; replace H := hidp (H.out.call hb); clear ca1; replace HUr := hidp (HUr.out.to hb); clear hb) | (refine Mm.putF0 H rfl 9 (.tmp 136) (.const (.string (⟨#[108, 101, 97, 118, 101]⟩ : ByteArray))) 3 (.string (⟨#[108, 101, 97, 118, 101]⟩ : ByteArray)) rfl rfl rfl (by kernel_rfl) rfl (of_decide_eq_true rfl) ?_; intro _ H2 st; replace HUr := hidp (HUr.out.stpN st hgu.out) ; clear st H; have H : Hid (Mm.M w.heap.size w _ ([⟨b21, 48, [.string (⟨#[112, 117, 98, 108, 105, 99]⟩ : ByteArray), .string (⟨#[106, 111, 105, 110]⟩ : ByteArray), .string (⟨#[106, 111, 105, 110]⟩ : ByteArray), .string (⟨#[108, 101, 97, 118, 101]⟩ : ByteArray), .bool false, .bool false, .bool DK, .bool DB, .bool true]⟩, ⟨b11, 40, [.int .i64 l2.a, .int .i64 l2.s, .int .i64 l2.i, .int .i64 l2.k, .int .i64 l2.b, .int .i64 l2.r, v2]⟩])) := H2; clear H2) | (refine Mm.get0 mvT H rfl (.tmp 21) rfl rfl rfl ?_) | (go_at_call 15; refine (ca2.out _).mono ?_; rintro e _ ⟨rfl, hb⟩; replace H := hidp (H.out.call hb); clear ca2; replace HUr := hidp (HUr.out.to hb); clear hb) | (refine Mm.get1 tyL H rfl (.tmp 11) rfl rfl rfl ?_) | (go_at_call 14; refine (co2c.out _ HUr.out).mono ?_; rintro e _ ⟨rfl, hb⟩; replace H := hidp (H.out.call hb); replace HUr := hidp (HUr.out.to hb); clear hb))
                        go_ret
                        exact ⟨rfl, H.out.below⟩
                      · refine Mm.o_newH mvT H (fun W h => h) rfl rfl rfl ?_
                        clear H
                        intro b21 _ H nw
                        have hb := nw.below
                        have hgu := hidp (show ∀ B o n c, v2 = Value.slice (some ⟨B, o, none⟩) n c → B ≠ b21 from fun B o n c h => Nat.ne_of_lt (Nat.lt_of_lt_of_le (HUr.out.ltB B o n c h) nw.le))
                        replace HUr := hidp (HUr.out.to hb); clear hb nw
                        simp only [Act.put, List.getElem_toArray, List.getElem_cons_zero, List.getElem_cons_succ, List.setIfInBounds_toArray, List.set_cons_zero, List.set_cons_succ]
                        refine Mm.o_callH (v := .int .i64 ob) H (fun W h => h.tail) rfl rfl 14 (#[.agg #[.int .i64 l2.a, .int .i64 l2.s, .int .i64 l2.i, .int .i64 l2.k, .int .i64 l2.b, .int .i64 l2.r, v2], .string b]) (by go_simp; first | done | rfl) (co2b.out _ HUr.out) ?_
                        clear H
                        intro _ H hb
                        replace HUr := hidp (HUr.out.to hb); clear hb
                        simp only [Act.put, List.getElem_toArray, List.getElem_cons_zero, List.getElem_cons_succ, List.setIfInBounds_toArray, List.set_cons_zero, List.set_cons_succ]
                        apply s_val
                        case ho => rfl
                        case hw => rfl
                        case hv => intro w hw; go_simp; first | done | with_reducible rfl | rfl
                        simp only [Act.put, List.getElem_toArray, List.getElem_cons_zero, List.getElem_cons_succ, List.setIfInBounds_toArray, List.set_cons_zero, List.set_cons_succ]
                        apply s_val (v := .agg #[.string (⟨#[112, 117, 98, 108, 105, 99]⟩ : ByteArray), .string (⟨#[106, 111, 105, 110]⟩ : ByteArray), .string (⟨#[106, 111, 105, 110]⟩ : ByteArray), .string (⟨#[98, 97, 110]⟩ : ByteArray), .bool false, .bool false, .bool DK, .bool DB, .bool true])
                        case ho => rfl
                        case hw => rfl
                        case hv => intro w hw; go_simp; first | done | with_reducible rfl | rfl
                        simp only [Act.put, List.getElem_toArray, List.getElem_cons_zero, List.getElem_cons_succ, List.setIfInBounds_toArray, List.set_cons_zero, List.set_cons_succ]
                        refine Mm.oput0 mvT H [.string (⟨#[112, 117, 98, 108, 105, 99]⟩ : ByteArray), .string (⟨#[106, 111, 105, 110]⟩ : ByteArray), .string (⟨#[106, 111, 105, 110]⟩ : ByteArray), .string (⟨#[98, 97, 110]⟩ : ByteArray), .bool false, .bool false, .bool DK, .bool DB, .bool true] (fun W h => h.tail) rfl rfl (.tmp 21) (.tmp 132) rfl rfl rfl rfl (by simp [Value.oneCell']) rfl ?_
                        intro _ H2 st
                        replace HUr := hidp (HUr.out.stpN st hgu.out); clear st H
                        have H := H2
                        clear H2
                        simp only [Act.put, List.getElem_toArray, List.getElem_cons_zero, List.getElem_cons_succ, List.setIfInBounds_toArray, List.set_cons_zero, List.set_cons_succ]
                        refine NoPanic.normal ?_
                        go_wp2_with (first | (refine Mm.skipd 147 rfl _ _ rfl rfl ?_) | (refine Mm.skipd 148 rfl _ _ rfl rfl ?_) | (refine Mm.skipd 149 rfl _ _ rfl rfl ?_) | (refine Mm.skipd 150 rfl _ _ rfl rfl ?_) | (refine Mm.skipd 151 rfl _ _ rfl rfl ?_) | (refine Mm.get0 mvT H rfl (.tmp 21) rfl rfl rfl ?_) | (go_at_call 15; refine (ca1.out _).mono ?_; rintro e _ ⟨rfl, hb⟩; replace H := hidp (H.out.call hb); clear ca1; replace HUr := hidp (HUr.out.to hb); clear hb) | (refine Mm.putF0 H rfl 9 (.tmp 136) (.const (.string (⟨#[108, 101, 97, 118, 101]⟩ : ByteArray))) 3 (.string (⟨#[108, 101, 97, 118, 101]⟩ : ByteArray)) rfl rfl rfl (by kernel_rfl) rfl (of_decide_eq_true rfl) ?_; intro _ H2 st; replace HUr := hidp (HUr.out.stpN st hgu.out) ; clear st H; have H : Hid (Mm.M w.heap.size w _ ([⟨b21, 48, [.string (⟨#[112, 117, 98, 108, 105, 99]⟩ : ByteArray), .string (⟨#[106, 111, 105, 110]⟩ : ByteArray), .string (⟨#[106, 111, 105, 110]⟩ : ByteArray), .string (⟨#[108, 101, 97, 118, 101]⟩ : ByteArray), .bool false, .bool false, .bool DK, .bool DB, .bool true]⟩, ⟨b11, 40, [.int .i64 l2.a, .int .i64 l2.s, .int .i64 l2.i, .int .i64 l2.k, .int .i64 l2.b, .int .i64 l2.r, v2]⟩])) := H2; clear H2) | (refine Mm.get0 mvT H rfl (.tmp 21) rfl rfl rfl ?_) | (go_at_call 15; refine (ca2.out _).mono ?_; rintro e _ ⟨rfl, hb⟩; replace H := hidp (H.out.call hb); clear ca2; replace HUr := hidp (HUr.out.to hb); clear hb) | (refine Mm.get1 tyL H rfl (.tmp 11) rfl rfl rfl ?_) | (go_at_call 14; refine (co2c.out _ HUr.out).mono ?_; rintro e _ ⟨rfl, hb⟩; replace H := hidp (H.out.call hb); replace HUr := hidp (HUr.out.to hb); clear hb))
                        go_ret
                        exact ⟨rfl, H.out.below⟩
end Go.Proofs.YtlgmgllilmlffaaDoor
