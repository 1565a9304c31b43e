
/-
  TopRoom: the walk.
-/
import Derived.Test.YtkcgmimcopoknaaGreatDoorFoG
import Derived.Test.YtkcgmimcopoknaaGreatDoorFoT
import Derived.Test.YtkcgmimcopoknaaGreatDoorAuV
import Derived.Test.YtkcgmimcopoknaaGreatDoorFoN
namespace Go.Proofs.YtkcgmimcopoknaaGreatDoor
set_option maxRecDepth 100000
set_option linter.unusedVariables false
set_option linter.unusedSimpArgs false
open Go.RowKit Rw
open List (getElem_toArray getElem_cons_zero getElem_cons_succ setIfInBounds_toArray set_cons_zero set_cons_succ)

/-- A cell of a right state is the one of its kind and key. -/
theorem fir_mem : ∀ {cs : List Ce}, cs.Pairwise ltC → ∀ c ∈ cs, firS cs c.k c.y = some c.e
  | [], _, c, h => by cases h
  | a :: r, hp, c, h => by
    rw [List.pairwise_cons] at hp
    unfold firS
    rw [List.find?_cons]
    rcases List.mem_cons.1 h with rfl | h
    · simp [isC]
    · have hlt := hp.1 c h
      have : isC c.k c.y a = false := by
        cases hq : isC c.k c.y a with
        | false => rfl
        | true => exact absurd ((ltC_key (isC_key.1 hq)).1.1 hlt) ltC_irr
      rw [this]
      exact fir_mem hp.2 c h
theorem jo_mem {cs : List Ce} (h : okS cs = true) {u : ByteArray} (hu : u ∈ joL cs) : (memS cs u).toList = wJoin.toList := by
  obtain ⟨-, -, hp⟩ := (okS_iff cs).1 h
  unfold joL at hu
  obtain ⟨c, hc, rfl⟩ := List.mem_map.1 hu
  obtain ⟨hc, hj⟩ := List.mem_filter.1 hc
  unfold joC at hj
  simp only [Bool.and_eq_true, decide_eq_true_eq] at hj
  have := fir_mem hp c hc
  rw [hj.1] at this
  unfold memS
  rw [this]
  exact beq_iff_eq.1 hj.2
theorem rn_zero : ∀ (l : List Ev) (r : Rm), (rn r l).2.1 = 0 → (rn r l).1 = r
  | [], r, _ => rfl
  | e :: l, r, h => by
    by_cases h0 : spE r e = 0
    · rw [rn_yes h0] at h; simp at h
    · rw [rn_no h0]
theorem rnAt_lt {es : List Ev} {r : Rm} {i : Nat} (h : rnAt es r i) (hi : i < es.length) (hm : i < (rn rm0 es).2.1) : spE r es[i] = 0 := by
  by_cases h0 : spE r es[i] = 0
  · exact h0
  · have := rnAt_no h hi h0
    rw [this] at hm
    simp at hm
theorem rnAt_fin {es : List Ev} {r : Rm} {i : Nat} (h : rnAt es r i) (hm : (rn rm0 es).2.1 = i) : (rn rm0 es).1 = r := by
  unfold rnAt at h
  rw [h] at hm ⊢
  exact rn_zero _ _ (by simp at hm; exact hm)
theorem rk_live {r : Rm} {m : Nat} (g : r.live m) (hm : m ≤ 200) : rkE r = 0 := by
  unfold rkE ckS
  have := g.h0; have := g.h1; have := g.p0; have := g.p1; have := g.good.n
  rw [if_neg (by omega), if_pos g.good.ok]
theorem lv_live {r : Rm} {m : Nat} (g : r.live (m + 1)) : aLx r.cs = 0 ∧ lvE (aLv r.cs) = 0 ∧ ∀ x, ofL (aLv r.cs) x ≤ 100 := by
  obtain ⟨-, h1, h2, h3⟩ := g.made (by omega)
  unfold aLx aLv lvE
  rw [if_pos g.good.ok, if_pos g.good.ok]
  exact ⟨h1, if_pos h2, h3⟩

set_option maxHeartbeats 32000000 in
theorem walk_topRoom (w : World) (v : Value) (es : List Ev) (hv : EsAt w v es) (hP : PT w) :
    Calls Tryz.prog 7 #[v] w fun x w' => x = .returned (.bool true) ∧ Below w.heap.size w w' := by
  have HP := hidp hP; have HV := hidp hv
  have bg := hidp (fun W => beginsT_any W)
  have kr := hidp (fun W h h2 => run_any W v es h h2)
  obtain ⟨av, cv, hv0⟩ := hv.form
  obtain ⟨n, hn⟩ : ∃ n, es.length = n := ⟨_, rfl⟩
  rw [hn] at hv0
  subst hv0
  have HN := hidp hn
  have H := hidp (Mm.M.nil w)
  by_cases hbig : 60 < n
  · have d1 : decide ((n : Int) > 60) = true := decide_eq_true (by omega)
    have d2 : decide ((60 : Int) < (n : Int)) = true := d1
    clear hv hn hP kr hbig
    go_enter Tryz.func7, Tryz.ntmps7
    have tk0 := hidp trivial
    go_wp2_with (first | (clear tk0; (go_at_call 17; refine (bg.out _).mono ?_; rintro e _ ⟨rfl, hb⟩; replace H := hidp (H.out.call hb); clear bg; clear hb); (try simp only [Act.put, setIfInBounds_toArray, set_cons_zero, set_cons_succ]); have tk1 := hidp trivial))
    go_ret
    exact ⟨rfl, H.out.below⟩
  · have d1 : decide ((n : Int) > 60) = false := decide_eq_false (by omega)
    have d2 : decide ((60 : Int) < (n : Int)) = false := d1
    have hle := rn_le es rm0
    have hk := (rn_hub es rm0).2
    obtain ⟨R, hR⟩ : ∃ R, (rn rm0 es).1 = R := ⟨_, rfl⟩
    obtain ⟨m, hm⟩ : ∃ m, (rn rm0 es).2.1 = m := ⟨_, rfl⟩
    obtain ⟨E, hE⟩ : ∃ m, (rn rm0 es).2.2 = m := ⟨_, rfl⟩
    rw [hR, hm] at hk
    have HRm := hidp hR; have HMm := hidp hm
    rw [hR, hm, hE] at kr
    rw [hm, hn] at hle
    have q3 : R.n = (m : Int) := by rw [hk]; show (0 : Int) + _ = _; omega
    have hmn := hidp (show m ≤ es.length from by rw [hn]; exact hle)
    have hm60 : m ≤ 60 := by omega
    have d3 : decide ((m : Int) < 0) = false := decide_eq_false (by omega)
    have d4 : decide ((m : Int) > (n : Int)) = false := decide_eq_false (by omega)
    have d5 : decide ((n : Int) < (m : Int)) = false := d4
    have d7 : decide (n < m) = false := decide_eq_false (by omega)
    have d6 : (R.n != (m : Int)) = false := by rw [q3]; simp
    have HE := hidp (hv.pre hmn.out)
    obtain ⟨n3, hn3⟩ : ∃ z, R.cs.length = z := ⟨_, rfl⟩
    have HN3 := hidp hn3
    have hl27 : (es.take m).length = m := by rw [List.length_take]; exact Nat.min_eq_left hmn.out
    have HL := hidp hl27
    have HQ := hidp q3
    clear hv hn hP hbig hk hR hm hE q3 hle hn3 hl27
    go_enter Tryz.func7, Tryz.ntmps7
    have tk0 := hidp trivial
    go_wp2_with (first | (refine Rt.wpL_skip _ _ rfl rfl ?_) | (clear tk0; (go_at_call 17; refine (bg.out _).mono ?_; rintro e _ ⟨rfl, hb⟩; replace H := hidp (H.out.call hb); clear bg; clear hb); (try simp only [Act.put, setIfInBounds_toArray, set_cons_zero, set_cons_succ]); have tk1 := hidp trivial) | (clear tk1; (go_at_call 13; refine (kr.out _ (HV.out.to H.out.below) (HP.out.below H.out.below (Nat.le_refl _))).mono ?_; rintro x _ ⟨v3, rfl, hcs, hb⟩; obtain ⟨a3, c3, rfl⟩ := hcs.form; rw [HN3.out]; replace H := hidp (H.out.call hb); clear hcs hb kr); (try simp only [Act.put, setIfInBounds_toArray, set_cons_zero, set_cons_succ]); have tk2 := hidp trivial) | (clear tk2; (refine Mm.new rtR H (some 3) rfl rfl rfl ?_; clear H; intro b3 _ H nw; have hb := nw.below; clear hb nw); (try simp only [Act.put, setIfInBounds_toArray, set_cons_zero, set_cons_succ]); have tk3 := hidp trivial) | (clear tk3; (refine Mm.put0 rtR H rfl (.tmp 3) (.tmp 24) [.slice a3 n3 c3, .int .i64 R.h, .int .i64 R.ep, .int .i64 R.n] rfl rfl rfl rfl (by simp [Value.oneCell']) rfl ?_; intro _ H2 st; clear st H; have H := H2; clear H2); (try simp only [Act.put, setIfInBounds_toArray, set_cons_zero, set_cons_succ]); have tk4 := hidp trivial) | (clear tk4; (refine Mm.ld0 naInt H rfl (.tmp 36) 3 (.int .i64 R.n) rfl rfl rfl ?_); (try simp only [Act.put, setIfInBounds_toArray, set_cons_zero, set_cons_succ]); have tk5 := hidp trivial) | (clear tk5; (refine Mm.new rtR H (some 6) rfl rfl rfl ?_; clear H; intro b6 _ H nw; have hb := nw.below; clear hb nw); (try simp only [Act.put, setIfInBounds_toArray, set_cons_zero, set_cons_succ]); have tk6 := hidp trivial) | (clear tk6; (refine wpL_toPre tyE rfl (.tmp 41) (.tmp 42) rfl _ n _ m (rowsE es) rfl rfl (HV.out.to H.out.below).rs (by rw [rowsE_len]; exact hmn.out) ?_); (try simp only [Act.put, setIfInBounds_toArray, set_cons_zero, set_cons_succ]); have tk7 := hidp trivial))
    go_loopw [45] (fun t45 wr => ∃ (i : Nat) (rr : Rm) (a6 : Option Addr) (n6 c6 : Nat), t45 = .int .i64 (i : Int) ∧ i ≤ m ∧ rnAt es rr i ∧ rr.live i ∧ fitC rr.cs ∧ CsAt wr (.slice a6 n6 c6) rr.cs ∧ Mm.M w.heap.size w wr [⟨b6, 35, [.slice a6 n6 c6, .int .i64 rr.h, .int .i64 rr.ep, .int .i64 rr.n]⟩, ⟨b3, 35, [.slice a3 n3 c3, .int .i64 R.h, .int .i64 R.ep, .int .i64 R.n]⟩]) (fun t45 _ => m - (intOf t45).toNat)
    case atStart => exact ⟨0, rm0, none, 0, 0, rfl, by omega, rnAt_0 es, live0, (fun c hc => by cases hc), CsAt.nil _, H.out⟩
    case round =>
      clear H
      obtain ⟨i, ⟨cs0, h0, p0, k0⟩, a6, n6, c6, rfl, hi, hR1, hL1, hF1, hS, hM⟩ := hrel
      have H := hidp hM; have HS := hidp hS
      clear hM hS
      simp only [] at H HS
      by_cases hlt : i < m
      · have e1 : decide ((i : Int) < (m : Int)) = true := decide_eq_true (by omega)
        have hgl : i < (es.take m).length := by rw [HL.out]; exact hlt
        have hgl2 : i < es.length := by have := hmn.out; omega
        obtain ⟨BK, off, c, e2, hc, hBK0, hR0⟩ := HE.out.get (by rw [HL.out]; omega)
        rw [HL.out] at e2
        simp only [Value.slice.injEq] at e2
        obtain ⟨rfl, -, rfl⟩ := e2
        have hz0 := rnAt_lt hR1 hgl2 (by rw [HMm.out]; exact hlt)
        have hR2 := rnAt_yes hR1 hgl2 hz0
        obtain ⟨e, hge⟩ : ∃ e, es[i] = e := ⟨_, rfl⟩
        rw [hge] at hz0 hR2
        have hge2 : (es.take m)[i] = e := by rw [List.getElem_take]; exact hge
        have HRI := hidp (show wr.rangeAt BK (off + 6 * i) e.row from by rw [← hge2]; exact rangeAt_below (hR0 i hgl) H.out.below hBK0)
        have hfit : e.fit := by rw [← hge]; exact HV.out.fit _ (List.getElem_mem hgl2)
        have ha : auE cs0 e = 0 := by rw [← hz0]; exact (spE_small hL1.good (by omega) e).symm
        obtain ⟨f1, f2, f3⟩ := room_event hL1 ha
        have hL2 := live_step hL1 (by omega) hz0
        have hF2 := spR_fit (r := ⟨cs0, h0, p0, k0⟩) hF1 hfit
        have nxt := hidp (fun W h hp => next_room W (.slice a6 n6 c6) cs0 h hF1 h0 p0 k0 e hfit hp)
        rw [show nxR ⟨cs0, h0, p0, k0⟩ e = spR ⟨cs0, h0, p0, k0⟩ e from if_pos (rk_live hL1 (by omega)), show nxE ⟨cs0, h0, p0, k0⟩ e = 0 from (if_pos (rk_live hL1 (by omega))).trans hz0] at nxt
        obtain ⟨R2, hR2e⟩ : ∃ R, spR ⟨cs0, h0, p0, k0⟩ e = R := ⟨_, rfl⟩
        rw [hR2e] at nxt hR2 hL2 hF2
        obtain ⟨cs2, h2, p2, k2⟩ := R2
        simp only [] at nxt hF2
        have HR2 := hidp hR2; have HL2 := hidp hL2; have HF2 := hidp hF2
        obtain ⟨l1, l2, l3⟩ := lv_live hL2
        simp only [] at l1 l2 l3
        have lev := hidp (fun W v h hp => aLevels_any W v cs2 h hF2 hp)
        rw [l1] at lev
        obtain ⟨L, hLe⟩ : ∃ L, aLv cs2 = L := ⟨_, rfl⟩
        rw [hLe] at lev l2 l3
        have lvc := hidp (fun W u h hp => lvCheck_any W L u h hp)
        rw [l2] at lvc
        have HOF := hidp l3
        have hc2 : cs2.length ≤ 1000 := by have := hL2.good.le; simp only at this; omega
        have joi := hidp (fun W v h => joined_any W v cs2 h hc2 h2 p2 k2)
        have hJM := fun u hu => jo_mem hL2.good.ok (u := u) hu
        simp only [] at hJM
        obtain ⟨J, hJ⟩ : ∃ J, joL cs2 = J := ⟨_, rfl⟩
        rw [hJ] at joi hJM
        have HJM := hidp hJM
        obtain ⟨nj, hnj⟩ : ∃ z, J.length = z := ⟨_, rfl⟩
        have HJN := hidp hnj
        have hnb := (show nj ≤ 1000 from by rw [← hnj, ← hJ]; have := joL_len cs2 cs2.length; rw [List.take_length] at this; omega)
        obtain ⟨n7, hn7⟩ : ∃ z, cs2.length = z := ⟨_, rfl⟩
        have HN7 := hidp hn7
        have ofc := hidp (fun W u x h => of_any W L u x h)
        have me2 := hidp (fun W v h y => mem_any W v cs2 h y)
        have me1 := hidp (fun W h => mem_any W (.slice a6 n6 c6) cs0 h e.sender)
        obtain ⟨m0, hm0⟩ : ∃ z, memS cs0 e.sender = z := ⟨_, rfl⟩
        simp only [] at f2 f3
        rw [hm0] at me1 f2 f3
        clear hR1 hL1 hF1 hz0 hR2 hge hge2 hR0 hBK0 hc ha hL2 hF2 hR2e l1 l2 l3 hLe hc2 hJM hJ hnj hn7 hm0 hgl hfit
        by_cases hi0 : i = 0
        · have g0 : ((i : Int) == 0) = true := by rw [hi0]; rfl
          have g1 : ((e.kind : Int) == 1) = true := by rw [f1.1 hi0]; rfl
          have g2 : decide ((i : Int) > 0) = false := decide_eq_false (by omega)
          have g3 : decide ((0 : Int) < (i : Int)) = false := g2
          have g4 : decide (0 < i) = false := decide_eq_false (by omega)
          clear f1 f2 f3 hi0
          as_aux_lemma =>
            have tk0 := hidp trivial
            go_wp2_with (first | (refine Rt.wpL_skip _ _ rfl rfl ?_) | (clear tk0; (refine wpL_idxR tyE rfl (.tmp 43) (.tmp 45) rfl BK off m _ i rfl rfl hlt ?_); (try simp only [Act.put, setIfInBounds_toArray, set_cons_zero, set_cons_succ]); have tk1 := hidp trivial) | (clear tk1; (refine wpL_atR tyE rfl (.tmp 48) rfl BK (off + 6 * i) e.row rfl rfl HRI.out ?_); (try simp only [Act.put, setIfInBounds_toArray, set_cons_zero, set_cons_succ]); have tk2 := hidp trivial) | (clear tk2; (refine Mm.new rtE H (some 8) rfl rfl rfl ?_; clear H; intro b8 _ H nw; have hb := nw.below; have hfar := hidp (HS.out.far nw.le); replace HS := hidp (HS.out.to hb); clear hb nw); (try simp only [Act.put, setIfInBounds_toArray, set_cons_zero, set_cons_succ]); have tk3 := hidp trivial) | (clear tk3; (refine Mm.put0 rtE H rfl (.tmp 8) (.tmp 49) e.row rfl rfl rfl rfl (Ev.one _) rfl ?_; intro _ H2 st; replace HS := hidp (HS.out.stpN st hfar.out); clear st H; have H := H2; clear H2); (try simp only [Act.put, setIfInBounds_toArray, set_cons_zero, set_cons_succ]); have tk4 := hidp trivial) | (clear tk4; (refine Mm.ld0 naK H rfl (.tmp 52) 2 (.int .u8 (e.kind : Int)) rfl rfl rfl ?_); (try simp only [Act.put, setIfInBounds_toArray, set_cons_zero, set_cons_succ]); have tk5 := hidp trivial) | (clear tk5; (refine Mm.ld1 naSl H rfl (.tmp 56) 0 (.slice a6 n6 c6) rfl rfl rfl ?_); (try simp only [Act.put, setIfInBounds_toArray, set_cons_zero, set_cons_succ]); have tk6 := hidp trivial) | (clear tk6; (refine Mm.ld0 naS H rfl (.tmp 58) 1 (.string e.sender) rfl rfl rfl ?_); (try simp only [Act.put, setIfInBounds_toArray, set_cons_zero, set_cons_succ]); have tk7 := hidp trivial) | (clear tk7; (go_at_call 11; refine (me1.out _ HS.out).mono ?_; rintro e _ ⟨rfl, hb⟩; replace H := hidp (H.out.call hb); clear me1; replace HS := hidp (HS.out.to hb); clear hb); (try simp only [Act.put, setIfInBounds_toArray, set_cons_zero, set_cons_succ]); have tk8 := hidp trivial) | (clear tk8; (refine Mm.get1 rtR H rfl (.tmp 6) rfl rfl rfl ?_); (try simp only [Act.put, setIfInBounds_toArray, set_cons_zero, set_cons_succ]); have tk9 := hidp trivial) | (clear tk9; (refine Mm.get0 rtE H rfl (.tmp 8) rfl rfl rfl ?_); (try simp only [Act.put, setIfInBounds_toArray, set_cons_zero, set_cons_succ]); have tk10 := hidp trivial) | (clear tk10; (go_at_call 18; refine (nxt.out _ HS.out (HP.out.below H.out.below (Nat.le_refl _))).mono ?_; rintro x _ ⟨v7, rfl, hcs, hb⟩; obtain ⟨a7, c7, rfl⟩ := hcs.form; rw [HN7.out] at hcs ⊢; replace H := hidp (H.out.call hb); clear HS; have HS := hidp hcs; clear hcs hb nxt); (try simp only [Act.put, setIfInBounds_toArray, set_cons_zero, set_cons_succ]); have tk11 := hidp trivial) | (clear tk11; (refine Mm.new rtR H (some 10) rfl rfl rfl ?_; clear H; intro b10 _ H nw; have hb := nw.below; replace HS := hidp (HS.out.to hb); clear hb nw); (try simp only [Act.put, setIfInBounds_toArray, set_cons_zero, set_cons_succ]); have tk12 := hidp trivial) | (clear tk12; (refine Mm.put0 rtR H rfl (.tmp 10) (.tmp 84) [.slice a7 n7 c7, .int .i64 h2, .int .i64 p2, .int .i64 k2] rfl rfl rfl rfl (by simp [Value.oneCell']) rfl ?_; intro _ H2 st; replace HS := hidp (HS.out.stp st H.out.at0 (by simp [zR])); clear st H; have H := H2; clear H2); (try simp only [Act.put, setIfInBounds_toArray, set_cons_zero, set_cons_succ]); have tk13 := hidp trivial) | (clear tk13; (refine Mm.get0 rtR H rfl (.tmp 10) rfl rfl rfl ?_); (try simp only [Act.put, setIfInBounds_toArray, set_cons_zero, set_cons_succ]); have tk14 := hidp trivial) | (clear tk14; (refine Mm.put2 rtR H rfl (.tmp 6) (.tmp 88) [.slice a7 n7 c7, .int .i64 h2, .int .i64 p2, .int .i64 k2] rfl rfl rfl rfl (by simp [Value.oneCell']) rfl ?_; intro _ H2 st; replace HS := hidp (HS.out.stp st H.out.at2 (by simp)); clear st H; have H := H2; clear H2); (try simp only [Act.put, setIfInBounds_toArray, set_cons_zero, set_cons_succ]); have tk15 := hidp trivial) | (clear tk15; (refine Mm.ld2 naSl H rfl (.tmp 90) 0 (.slice a7 n7 c7) rfl rfl rfl ?_); (try simp only [Act.put, setIfInBounds_toArray, set_cons_zero, set_cons_succ]); have tk16 := hidp trivial) | (clear tk16; (go_at_call 19; refine (lev.out _ _ HS.out (HP.out.below H.out.below (Nat.le_refl _))).mono ?_; rintro x _ ⟨u1, rfl, hu, hb⟩; obtain ⟨a9, c9, rfl⟩ := hu.form; replace H := hidp (H.out.call hb); replace HS := hidp (HS.out.to hb); have HU := hidp hu; clear hu hb lev); (try simp only [Act.put, setIfInBounds_toArray, set_cons_zero, set_cons_succ]); have tk17 := hidp trivial) | (clear tk17; (refine Mm.new tyL H (some 12) rfl rfl rfl ?_; clear H; intro b12 _ H nw; have hb := nw.below; replace HS := hidp (HS.out.to hb); replace HU := hidp (HU.out.to hb); clear hb nw); (try simp only [Act.put, setIfInBounds_toArray, set_cons_zero, set_cons_succ]); have tk18 := hidp trivial) | (clear tk18; (refine Mm.put0 tyL H rfl (.tmp 12) (.tmp 93) [.int .i64 L.a, .int .i64 L.s, .int .i64 L.i, .int .i64 L.k, .int .i64 L.b, .int .i64 L.r, .slice a9 L.us.length c9] rfl rfl rfl rfl (by simp [Value.oneCell']) rfl ?_; intro _ H2 st; replace HS := hidp (HS.out.stp st H.out.at0 (by simp [zL])); replace HU := hidp (HU.out.stp st H.out.at0 (by simp [zL])); clear st H; have H := H2; clear H2); (try simp only [Act.put, setIfInBounds_toArray, set_cons_zero, set_cons_succ]); have tk19 := hidp trivial) | (clear tk19; (refine Mm.get0 tyL H rfl (.tmp 12) rfl rfl rfl ?_); (try simp only [Act.put, setIfInBounds_toArray, set_cons_zero, set_cons_succ]); have tk20 := hidp trivial) | (clear tk20; (go_at_call 20; refine (lvc.out _ _ HU.out (HP.out.below H.out.below (Nat.le_refl _))).mono ?_; rintro e _ ⟨rfl, hb⟩; replace H := hidp (H.out.call hb); clear lvc; replace HS := hidp (HS.out.to hb); replace HU := hidp (HU.out.to hb); clear hb); (try simp only [Act.put, setIfInBounds_toArray, set_cons_zero, set_cons_succ]); have tk21 := hidp trivial) | (clear tk21; (refine Mm.get3 rtR H rfl (.tmp 6) rfl rfl rfl ?_); (try simp only [Act.put, setIfInBounds_toArray, set_cons_zero, set_cons_succ]); have tk22 := hidp trivial) | (clear tk22; (go_at_call 21; refine (joi.out _ _ HS.out).mono ?_; rintro x _ ⟨v8, rfl, hs, hb⟩; obtain ⟨a8, c8, rfl, hcell⟩ := hs; have HT := hidp (show StrsAt _ (.slice a8 J.length c8) J from ⟨a8, c8, rfl, hcell⟩); rw [HJN.out] at HT ⊢; replace H := hidp (H.out.call hb); replace HS := hidp (HS.out.to hb); replace HU := hidp (HU.out.to hb); clear hcell hb joi); (try simp only [Act.put, setIfInBounds_toArray, set_cons_zero, set_cons_succ]); have tk23 := hidp trivial))
            as_aux_lemma =>
              go_loopw [105] (fun t105 wr2 => ∃ j : Nat, t105 = .int .i64 (j : Int) ∧ j ≤ nj ∧ StrsAt wr2 (.slice a8 nj c8) J ∧ UsAt wr2 (.slice a9 L.us.length c9) L.us ∧ CsAt wr2 (.slice a7 n7 c7) cs2 ∧ Mm.M w.heap.size w wr2 ([⟨b12, 47, [.int .i64 L.a, .int .i64 L.s, .int .i64 L.i, .int .i64 L.k, .int .i64 L.b, .int .i64 L.r, .slice a9 L.us.length c9]⟩, ⟨b10, 35, [.slice a7 n7 c7, .int .i64 h2, .int .i64 p2, .int .i64 k2]⟩, ⟨b8, 25, e.row⟩, ⟨b6, 35, [.slice a7 n7 c7, .int .i64 h2, .int .i64 p2, .int .i64 k2]⟩, ⟨b3, 35, [.slice a3 n3 c3, .int .i64 R.h, .int .i64 R.ep, .int .i64 R.n]⟩])) (fun t105 _ => nj - (intOf t105).toNat)
              case atStart => exact ⟨0, rfl, by omega, HT.out, HU.out, HS.out, H.out⟩
              case round =>
                clear H HS HU HT
                obtain ⟨j, rfl, hj, hT, hU, hS, hM⟩ := hrel
                have H := hidp hM; have HS := hidp hS; have HU := hidp hU; have HT := hidp hT
                clear hM hS hU hT
                by_cases hjl : j < nj
                · have ej : decide ((j : Int) < (nj : Int)) = true := decide_eq_true (by omega)
                  have hjg : j < J.length := by rw [HJN.out]; exact hjl
                  have HJL := hidp hjl
                  obtain ⟨a8', c8', ee, hcell⟩ := HT.out
                  simp only [Value.slice.injEq] at ee
                  obtain ⟨rfl, -, rfl⟩ := ee
                  obtain ⟨bj, oj, rfl, hcj⟩ := hcell j hjg
                  obtain ⟨u, hu⟩ : ∃ u, J[j] = u := ⟨_, rfl⟩
                  have hmem := HJM.out u (by rw [← hu]; exact List.getElem_mem hjg)
                  rw [hu] at hcj
                  have hof := HOF.out u
                  have g100 : decide (ofL L u > 100) = false := decide_eq_false (by omega)
                  have g101 : decide (100 < ofL L u) = false := decide_eq_false (by omega)
                  obtain ⟨mm, hmm⟩ : ∃ z, memS cs2 u = z := ⟨_, rfl⟩
                  obtain ⟨oo, hoo⟩ : ∃ z, ofL L u = z := ⟨_, rfl⟩
                  have me3 := hidp (fun W h => me2.out W (.slice a7 n7 c7) h u); have of3 := hidp (fun W v h => ofc.out W v u h)
                  rw [hmm] at me3 hmem
                  rw [hoo] at of3 g100 g101
                  have hneq : (mm.toList == ([106, 111, 105, 110] : List UInt8)) = true := by rw [hmem, wJoin_eq]; simp
                  have hi0 : (0 : Int) ≤ (j : Int) := by omega
                  have hi1 : (j : Int) < (nj : Int) := by omega
                  clear hcell hu hmem hof hmm hoo
                  have tk0 := hidp trivial
                  go_wp2_with (first | (clear tk0; (refine Mm.get0 tyL H rfl (.tmp 12) rfl rfl rfl ?_); (try simp only [Act.put, setIfInBounds_toArray, set_cons_zero, set_cons_succ]); have tk1 := hidp trivial) | (clear tk1; (go_at_call 22; refine (of3.out _ _ HU.out).mono ?_; rintro e _ ⟨rfl, hb⟩; replace H := hidp (H.out.call hb); replace HS := hidp (HS.out.to hb); replace HU := hidp (HU.out.to hb); replace HT := hidp (HT.out.below hb (Nat.le_refl _)); clear hb); (try simp only [Act.put, setIfInBounds_toArray, set_cons_zero, set_cons_succ]); have tk2 := hidp trivial) | (clear tk2; (refine Mm.ld3 naSl H rfl (.tmp 114) 0 (.slice a7 n7 c7) rfl rfl rfl ?_); (try simp only [Act.put, setIfInBounds_toArray, set_cons_zero, set_cons_succ]); have tk3 := hidp trivial) | (clear tk3; (go_at_call 11; refine (me3.out _ HS.out).mono ?_; rintro e _ ⟨rfl, hb⟩; replace H := hidp (H.out.call hb); replace HS := hidp (HS.out.to hb); replace HU := hidp (HU.out.to hb); replace HT := hidp (HT.out.below hb (Nat.le_refl _)); clear hb); (try simp only [Act.put, setIfInBounds_toArray, set_cons_zero, set_cons_succ]); have tk4 := hidp trivial))
                  have hj9 := HJL.out
                  exact ⟨⟨j + 1, by go_num, by omega, HT.out, HU.out, HS.out, H.out⟩, by simp [intOf]; omega⟩
                · have ej : decide ((j : Int) < (nj : Int)) = false := decide_eq_false (by omega)
                  go_wp2_with fail
                  exact ⟨⟨i + 1, ⟨cs2, h2, p2, k2⟩, a7, n7, c7, by go_num, by omega, HR2.out, HL2.out, HF2.out, HS.out, H.out.tail.tail.tail⟩, by simp [intOf]; omega⟩
        · have hpos : 0 < i := by omega
          have f3' := f3 hpos
          have g0 : ((i : Int) == 0) = false := by rw [beq_eq_false_iff_ne]; omega
          have g1 : ((e.kind : Int) == 1) = false := by rw [beq_eq_false_iff_ne]; intro h; exact hi0 (f1.2 (by omega))
          have g2 : decide ((i : Int) > 0) = true := decide_eq_true (by omega)
          have g3 : decide ((0 : Int) < (i : Int)) = true := g2
          have g4 : decide (0 < i) = true := decide_eq_true hpos
          have g5 : (m0.toList == ([98, 97, 110] : List UInt8)) = false := by rw [beq_eq_false_iff_ne]; exact f3'
          by_cases h2k : e.kind = 2
          · have g6 : ((e.kind : Int) != 2) = false := by rw [h2k]; rfl
            have g7 : ((e.kind : Int) == 2) = true := by rw [h2k]; rfl
            clear f1 f2 f3 f3' hi0 hpos h2k
            as_aux_lemma =>
              have tk0 := hidp trivial
              go_wp2_with (first | (refine Rt.wpL_skip _ _ rfl rfl ?_) | (clear tk0; (refine wpL_idxR tyE rfl (.tmp 43) (.tmp 45) rfl BK off m _ i rfl rfl hlt ?_); (try simp only [Act.put, setIfInBounds_toArray, set_cons_zero, set_cons_succ]); have tk1 := hidp trivial) | (clear tk1; (refine wpL_atR tyE rfl (.tmp 48) rfl BK (off + 6 * i) e.row rfl rfl HRI.out ?_); (try simp only [Act.put, setIfInBounds_toArray, set_cons_zero, set_cons_succ]); have tk2 := hidp trivial) | (clear tk2; (refine Mm.new rtE H (some 8) rfl rfl rfl ?_; clear H; intro b8 _ H nw; have hb := nw.below; have hfar := hidp (HS.out.far nw.le); replace HS := hidp (HS.out.to hb); clear hb nw); (try simp only [Act.put, setIfInBounds_toArray, set_cons_zero, set_cons_succ]); have tk3 := hidp trivial) | (clear tk3; (refine Mm.put0 rtE H rfl (.tmp 8) (.tmp 49) e.row rfl rfl rfl rfl (Ev.one _) rfl ?_; intro _ H2 st; replace HS := hidp (HS.out.stpN st hfar.out); clear st H; have H := H2; clear H2); (try simp only [Act.put, setIfInBounds_toArray, set_cons_zero, set_cons_succ]); have tk4 := hidp trivial) | (clear tk4; (refine Mm.ld0 naK H rfl (.tmp 52) 2 (.int .u8 (e.kind : Int)) rfl rfl rfl ?_); (try simp only [Act.put, setIfInBounds_toArray, set_cons_zero, set_cons_succ]); have tk5 := hidp trivial) | (clear tk5; (refine Mm.ld1 naSl H rfl (.tmp 56) 0 (.slice a6 n6 c6) rfl rfl rfl ?_); (try simp only [Act.put, setIfInBounds_toArray, set_cons_zero, set_cons_succ]); have tk6 := hidp trivial) | (clear tk6; (refine Mm.ld0 naS H rfl (.tmp 58) 1 (.string e.sender) rfl rfl rfl ?_); (try simp only [Act.put, setIfInBounds_toArray, set_cons_zero, set_cons_succ]); have tk7 := hidp trivial) | (clear tk7; (go_at_call 11; refine (me1.out _ HS.out).mono ?_; rintro e _ ⟨rfl, hb⟩; replace H := hidp (H.out.call hb); clear me1; replace HS := hidp (HS.out.to hb); clear hb); (try simp only [Act.put, setIfInBounds_toArray, set_cons_zero, set_cons_succ]); have tk8 := hidp trivial) | (clear tk8; (refine Mm.ld0 naK H rfl (.tmp 64) 2 (.int .u8 (e.kind : Int)) rfl rfl rfl ?_); (try simp only [Act.put, setIfInBounds_toArray, set_cons_zero, set_cons_succ]); have tk9 := hidp trivial) | (clear tk9; (refine Mm.get1 rtR H rfl (.tmp 6) rfl rfl rfl ?_); (try simp only [Act.put, setIfInBounds_toArray, set_cons_zero, set_cons_succ]); have tk10 := hidp trivial) | (clear tk10; (refine Mm.get0 rtE H rfl (.tmp 8) rfl rfl rfl ?_); (try simp only [Act.put, setIfInBounds_toArray, set_cons_zero, set_cons_succ]); have tk11 := hidp trivial) | (clear tk11; (go_at_call 18; refine (nxt.out _ HS.out (HP.out.below H.out.below (Nat.le_refl _))).mono ?_; rintro x _ ⟨v7, rfl, hcs, hb⟩; obtain ⟨a7, c7, rfl⟩ := hcs.form; rw [HN7.out] at hcs ⊢; replace H := hidp (H.out.call hb); clear HS; have HS := hidp hcs; clear hcs hb nxt); (try simp only [Act.put, setIfInBounds_toArray, set_cons_zero, set_cons_succ]); have tk12 := hidp trivial) | (clear tk12; (refine Mm.new rtR H (some 10) rfl rfl rfl ?_; clear H; intro b10 _ H nw; have hb := nw.below; replace HS := hidp (HS.out.to hb); clear hb nw); (try simp only [Act.put, setIfInBounds_toArray, set_cons_zero, set_cons_succ]); have tk13 := hidp trivial) | (clear tk13; (refine Mm.put0 rtR H rfl (.tmp 10) (.tmp 84) [.slice a7 n7 c7, .int .i64 h2, .int .i64 p2, .int .i64 k2] rfl rfl rfl rfl (by simp [Value.oneCell']) rfl ?_; intro _ H2 st; replace HS := hidp (HS.out.stp st H.out.at0 (by simp [zR])); clear st H; have H := H2; clear H2); (try simp only [Act.put, setIfInBounds_toArray, set_cons_zero, set_cons_succ]); have tk14 := hidp trivial) | (clear tk14; (refine Mm.get0 rtR H rfl (.tmp 10) rfl rfl rfl ?_); (try simp only [Act.put, setIfInBounds_toArray, set_cons_zero, set_cons_succ]); have tk15 := hidp trivial) | (clear tk15; (refine Mm.put2 rtR H rfl (.tmp 6) (.tmp 88) [.slice a7 n7 c7, .int .i64 h2, .int .i64 p2, .int .i64 k2] rfl rfl rfl rfl (by simp [Value.oneCell']) rfl ?_; intro _ H2 st; replace HS := hidp (HS.out.stp st H.out.at2 (by simp)); clear st H; have H := H2; clear H2); (try simp only [Act.put, setIfInBounds_toArray, set_cons_zero, set_cons_succ]); have tk16 := hidp trivial) | (clear tk16; (refine Mm.ld2 naSl H rfl (.tmp 90) 0 (.slice a7 n7 c7) rfl rfl rfl ?_); (try simp only [Act.put, setIfInBounds_toArray, set_cons_zero, set_cons_succ]); have tk17 := hidp trivial) | (clear tk17; (go_at_call 19; refine (lev.out _ _ HS.out (HP.out.below H.out.below (Nat.le_refl _))).mono ?_; rintro x _ ⟨u1, rfl, hu, hb⟩; obtain ⟨a9, c9, rfl⟩ := hu.form; replace H := hidp (H.out.call hb); replace HS := hidp (HS.out.to hb); have HU := hidp hu; clear hu hb lev); (try simp only [Act.put, setIfInBounds_toArray, set_cons_zero, set_cons_succ]); have tk18 := hidp trivial) | (clear tk18; (refine Mm.new tyL H (some 12) rfl rfl rfl ?_; clear H; intro b12 _ H nw; have hb := nw.below; replace HS := hidp (HS.out.to hb); replace HU := hidp (HU.out.to hb); clear hb nw); (try simp only [Act.put, setIfInBounds_toArray, set_cons_zero, set_cons_succ]); have tk19 := hidp trivial) | (clear tk19; (refine Mm.put0 tyL H rfl (.tmp 12) (.tmp 93) [.int .i64 L.a, .int .i64 L.s, .int .i64 L.i, .int .i64 L.k, .int .i64 L.b, .int .i64 L.r, .slice a9 L.us.length c9] rfl rfl rfl rfl (by simp [Value.oneCell']) rfl ?_; intro _ H2 st; replace HS := hidp (HS.out.stp st H.out.at0 (by simp [zL])); replace HU := hidp (HU.out.stp st H.out.at0 (by simp [zL])); clear st H; have H := H2; clear H2); (try simp only [Act.put, setIfInBounds_toArray, set_cons_zero, set_cons_succ]); have tk20 := hidp trivial) | (clear tk20; (refine Mm.get0 tyL H rfl (.tmp 12) rfl rfl rfl ?_); (try simp only [Act.put, setIfInBounds_toArray, set_cons_zero, set_cons_succ]); have tk21 := hidp trivial) | (clear tk21; (go_at_call 20; refine (lvc.out _ _ HU.out (HP.out.below H.out.below (Nat.le_refl _))).mono ?_; rintro e _ ⟨rfl, hb⟩; replace H := hidp (H.out.call hb); clear lvc; replace HS := hidp (HS.out.to hb); replace HU := hidp (HU.out.to hb); clear hb); (try simp only [Act.put, setIfInBounds_toArray, set_cons_zero, set_cons_succ]); have tk22 := hidp trivial) | (clear tk22; (refine Mm.get3 rtR H rfl (.tmp 6) rfl rfl rfl ?_); (try simp only [Act.put, setIfInBounds_toArray, set_cons_zero, set_cons_succ]); have tk23 := hidp trivial) | (clear tk23; (go_at_call 21; refine (joi.out _ _ HS.out).mono ?_; rintro x _ ⟨v8, rfl, hs, hb⟩; obtain ⟨a8, c8, rfl, hcell⟩ := hs; have HT := hidp (show StrsAt _ (.slice a8 J.length c8) J from ⟨a8, c8, rfl, hcell⟩); rw [HJN.out] at HT ⊢; replace H := hidp (H.out.call hb); replace HS := hidp (HS.out.to hb); replace HU := hidp (HU.out.to hb); clear hcell hb joi); (try simp only [Act.put, setIfInBounds_toArray, set_cons_zero, set_cons_succ]); have tk24 := hidp trivial))
              as_aux_lemma =>
                go_loopw [105] (fun t105 wr2 => ∃ j : Nat, t105 = .int .i64 (j : Int) ∧ j ≤ nj ∧ StrsAt wr2 (.slice a8 nj c8) J ∧ UsAt wr2 (.slice a9 L.us.length c9) L.us ∧ CsAt wr2 (.slice a7 n7 c7) cs2 ∧ Mm.M w.heap.size w wr2 ([⟨b12, 47, [.int .i64 L.a, .int .i64 L.s, .int .i64 L.i, .int .i64 L.k, .int .i64 L.b, .int .i64 L.r, .slice a9 L.us.length c9]⟩, ⟨b10, 35, [.slice a7 n7 c7, .int .i64 h2, .int .i64 p2, .int .i64 k2]⟩, ⟨b8, 25, e.row⟩, ⟨b6, 35, [.slice a7 n7 c7, .int .i64 h2, .int .i64 p2, .int .i64 k2]⟩, ⟨b3, 35, [.slice a3 n3 c3, .int .i64 R.h, .int .i64 R.ep, .int .i64 R.n]⟩])) (fun t105 _ => nj - (intOf t105).toNat)
                case atStart => exact ⟨0, rfl, by omega, HT.out, HU.out, HS.out, H.out⟩
                case round =>
                  clear H HS HU HT
                  obtain ⟨j, rfl, hj, hT, hU, hS, hM⟩ := hrel
                  have H := hidp hM; have HS := hidp hS; have HU := hidp hU; have HT := hidp hT
                  clear hM hS hU hT
                  by_cases hjl : j < nj
                  · have ej : decide ((j : Int) < (nj : Int)) = true := decide_eq_true (by omega)
                    have hjg : j < J.length := by rw [HJN.out]; exact hjl
                    have HJL := hidp hjl
                    obtain ⟨a8', c8', ee, hcell⟩ := HT.out
                    simp only [Value.slice.injEq] at ee
                    obtain ⟨rfl, -, rfl⟩ := ee
                    obtain ⟨bj, oj, rfl, hcj⟩ := hcell j hjg
                    obtain ⟨u, hu⟩ : ∃ u, J[j] = u := ⟨_, rfl⟩
                    have hmem := HJM.out u (by rw [← hu]; exact List.getElem_mem hjg)
                    rw [hu] at hcj
                    have hof := HOF.out u
                    have g100 : decide (ofL L u > 100) = false := decide_eq_false (by omega)
                    have g101 : decide (100 < ofL L u) = false := decide_eq_false (by omega)
                    obtain ⟨mm, hmm⟩ : ∃ z, memS cs2 u = z := ⟨_, rfl⟩
                    obtain ⟨oo, hoo⟩ : ∃ z, ofL L u = z := ⟨_, rfl⟩
                    have me3 := hidp (fun W h => me2.out W (.slice a7 n7 c7) h u); have of3 := hidp (fun W v h => ofc.out W v u h)
                    rw [hmm] at me3 hmem
                    rw [hoo] at of3 g100 g101
                    have hneq : (mm.toList == ([106, 111, 105, 110] : List UInt8)) = true := by rw [hmem, wJoin_eq]; simp
                    have hi0 : (0 : Int) ≤ (j : Int) := by omega
                    have hi1 : (j : Int) < (nj : Int) := by omega
                    clear hcell hu hmem hof hmm hoo
                    have tk0 := hidp trivial
                    go_wp2_with (first | (clear tk0; (refine Mm.get0 tyL H rfl (.tmp 12) rfl rfl rfl ?_); (try simp only [Act.put, setIfInBounds_toArray, set_cons_zero, set_cons_succ]); have tk1 := hidp trivial) | (clear tk1; (go_at_call 22; refine (of3.out _ _ HU.out).mono ?_; rintro e _ ⟨rfl, hb⟩; replace H := hidp (H.out.call hb); replace HS := hidp (HS.out.to hb); replace HU := hidp (HU.out.to hb); replace HT := hidp (HT.out.below hb (Nat.le_refl _)); clear hb); (try simp only [Act.put, setIfInBounds_toArray, set_cons_zero, set_cons_succ]); have tk2 := hidp trivial) | (clear tk2; (refine Mm.ld3 naSl H rfl (.tmp 114) 0 (.slice a7 n7 c7) rfl rfl rfl ?_); (try simp only [Act.put, setIfInBounds_toArray, set_cons_zero, set_cons_succ]); have tk3 := hidp trivial) | (clear tk3; (go_at_call 11; refine (me3.out _ HS.out).mono ?_; rintro e _ ⟨rfl, hb⟩; replace H := hidp (H.out.call hb); replace HS := hidp (HS.out.to hb); replace HU := hidp (HU.out.to hb); replace HT := hidp (HT.out.below hb (Nat.le_refl _)); clear hb); (try simp only [Act.put, setIfInBounds_toArray, set_cons_zero, set_cons_succ]); have tk4 := hidp trivial))
                    have hj9 := HJL.out
                    exact ⟨⟨j + 1, by go_num, by omega, HT.out, HU.out, HS.out, H.out⟩, by simp [intOf]; omega⟩
                  · have ej : decide ((j : Int) < (nj : Int)) = false := decide_eq_false (by omega)
                    go_wp2_with fail
                    exact ⟨⟨i + 1, ⟨cs2, h2, p2, k2⟩, a7, n7, c7, by go_num, by omega, HR2.out, HL2.out, HF2.out, HS.out, H.out.tail.tail.tail⟩, by simp [intOf]; omega⟩
          · have g6 : ((e.kind : Int) != 2) = true := by rw [bne_iff_ne]; omega
            have g7 : ((e.kind : Int) == 2) = false := by rw [beq_eq_false_iff_ne]; omega
            have g8 : (m0.toList == ([106, 111, 105, 110] : List UInt8)) = true := by rw [f2 hpos h2k, wJoin_eq]; simp
            clear f1 f2 f3 f3' hi0 hpos h2k
            as_aux_lemma =>
              have tk0 := hidp trivial
              go_wp2_with (first | (refine Rt.wpL_skip _ _ rfl rfl ?_) | (clear tk0; (refine wpL_idxR tyE rfl (.tmp 43) (.tmp 45) rfl BK off m _ i rfl rfl hlt ?_); (try simp only [Act.put, setIfInBounds_toArray, set_cons_zero, set_cons_succ]); have tk1 := hidp trivial) | (clear tk1; (refine wpL_atR tyE rfl (.tmp 48) rfl BK (off + 6 * i) e.row rfl rfl HRI.out ?_); (try simp only [Act.put, setIfInBounds_toArray, set_cons_zero, set_cons_succ]); have tk2 := hidp trivial) | (clear tk2; (refine Mm.new rtE H (some 8) rfl rfl rfl ?_; clear H; intro b8 _ H nw; have hb := nw.below; have hfar := hidp (HS.out.far nw.le); replace HS := hidp (HS.out.to hb); clear hb nw); (try simp only [Act.put, setIfInBounds_toArray, set_cons_zero, set_cons_succ]); have tk3 := hidp trivial) | (clear tk3; (refine Mm.put0 rtE H rfl (.tmp 8) (.tmp 49) e.row rfl rfl rfl rfl (Ev.one _) rfl ?_; intro _ H2 st; replace HS := hidp (HS.out.stpN st hfar.out); clear st H; have H := H2; clear H2); (try simp only [Act.put, setIfInBounds_toArray, set_cons_zero, set_cons_succ]); have tk4 := hidp trivial) | (clear tk4; (refine Mm.ld0 naK H rfl (.tmp 52) 2 (.int .u8 (e.kind : Int)) rfl rfl rfl ?_); (try simp only [Act.put, setIfInBounds_toArray, set_cons_zero, set_cons_succ]); have tk5 := hidp trivial) | (clear tk5; (refine Mm.ld1 naSl H rfl (.tmp 56) 0 (.slice a6 n6 c6) rfl rfl rfl ?_); (try simp only [Act.put, setIfInBounds_toArray, set_cons_zero, set_cons_succ]); have tk6 := hidp trivial) | (clear tk6; (refine Mm.ld0 naS H rfl (.tmp 58) 1 (.string e.sender) rfl rfl rfl ?_); (try simp only [Act.put, setIfInBounds_toArray, set_cons_zero, set_cons_succ]); have tk7 := hidp trivial) | (clear tk7; (go_at_call 11; refine (me1.out _ HS.out).mono ?_; rintro e _ ⟨rfl, hb⟩; replace H := hidp (H.out.call hb); clear me1; replace HS := hidp (HS.out.to hb); clear hb); (try simp only [Act.put, setIfInBounds_toArray, set_cons_zero, set_cons_succ]); have tk8 := hidp trivial) | (clear tk8; (refine Mm.ld0 naK H rfl (.tmp 64) 2 (.int .u8 (e.kind : Int)) rfl rfl rfl ?_); (try simp only [Act.put, setIfInBounds_toArray, set_cons_zero, set_cons_succ]); have tk9 := hidp trivial) | (clear tk9; (refine Mm.get1 rtR H rfl (.tmp 6) rfl rfl rfl ?_); (try simp only [Act.put, setIfInBounds_toArray, set_cons_zero, set_cons_succ]); have tk10 := hidp trivial) | (clear tk10; (refine Mm.get0 rtE H rfl (.tmp 8) rfl rfl rfl ?_); (try simp only [Act.put, setIfInBounds_toArray, set_cons_zero, set_cons_succ]); have tk11 := hidp trivial) | (clear tk11; (go_at_call 18; refine (nxt.out _ HS.out (HP.out.below H.out.below (Nat.le_refl _))).mono ?_; rintro x _ ⟨v7, rfl, hcs, hb⟩; obtain ⟨a7, c7, rfl⟩ := hcs.form; rw [HN7.out] at hcs ⊢; replace H := hidp (H.out.call hb); clear HS; have HS := hidp hcs; clear hcs hb nxt); (try simp only [Act.put, setIfInBounds_toArray, set_cons_zero, set_cons_succ]); have tk12 := hidp trivial) | (clear tk12; (refine Mm.new rtR H (some 10) rfl rfl rfl ?_; clear H; intro b10 _ H nw; have hb := nw.below; replace HS := hidp (HS.out.to hb); clear hb nw); (try simp only [Act.put, setIfInBounds_toArray, set_cons_zero, set_cons_succ]); have tk13 := hidp trivial) | (clear tk13; (refine Mm.put0 rtR H rfl (.tmp 10) (.tmp 84) [.slice a7 n7 c7, .int .i64 h2, .int .i64 p2, .int .i64 k2] rfl rfl rfl rfl (by simp [Value.oneCell']) rfl ?_; intro _ H2 st; replace HS := hidp (HS.out.stp st H.out.at0 (by simp [zR])); clear st H; have H := H2; clear H2); (try simp only [Act.put, setIfInBounds_toArray, set_cons_zero, set_cons_succ]); have tk14 := hidp trivial) | (clear tk14; (refine Mm.get0 rtR H rfl (.tmp 10) rfl rfl rfl ?_); (try simp only [Act.put, setIfInBounds_toArray, set_cons_zero, set_cons_succ]); have tk15 := hidp trivial) | (clear tk15; (refine Mm.put2 rtR H rfl (.tmp 6) (.tmp 88) [.slice a7 n7 c7, .int .i64 h2, .int .i64 p2, .int .i64 k2] rfl rfl rfl rfl (by simp [Value.oneCell']) rfl ?_; intro _ H2 st; replace HS := hidp (HS.out.stp st H.out.at2 (by simp)); clear st H; have H := H2; clear H2); (try simp only [Act.put, setIfInBounds_toArray, set_cons_zero, set_cons_succ]); have tk16 := hidp trivial) | (clear tk16; (refine Mm.ld2 naSl H rfl (.tmp 90) 0 (.slice a7 n7 c7) rfl rfl rfl ?_); (try simp only [Act.put, setIfInBounds_toArray, set_cons_zero, set_cons_succ]); have tk17 := hidp trivial) | (clear tk17; (go_at_call 19; refine (lev.out _ _ HS.out (HP.out.below H.out.below (Nat.le_refl _))).mono ?_; rintro x _ ⟨u1, rfl, hu, hb⟩; obtain ⟨a9, c9, rfl⟩ := hu.form; replace H := hidp (H.out.call hb); replace HS := hidp (HS.out.to hb); have HU := hidp hu; clear hu hb lev); (try simp only [Act.put, setIfInBounds_toArray, set_cons_zero, set_cons_succ]); have tk18 := hidp trivial) | (clear tk18; (refine Mm.new tyL H (some 12) rfl rfl rfl ?_; clear H; intro b12 _ H nw; have hb := nw.below; replace HS := hidp (HS.out.to hb); replace HU := hidp (HU.out.to hb); clear hb nw); (try simp only [Act.put, setIfInBounds_toArray, set_cons_zero, set_cons_succ]); have tk19 := hidp trivial) | (clear tk19; (refine Mm.put0 tyL H rfl (.tmp 12) (.tmp 93) [.int .i64 L.a, .int .i64 L.s, .int .i64 L.i, .int .i64 L.k, .int .i64 L.b, .int .i64 L.r, .slice a9 L.us.length c9] rfl rfl rfl rfl (by simp [Value.oneCell']) rfl ?_; intro _ H2 st; replace HS := hidp (HS.out.stp st H.out.at0 (by simp [zL])); replace HU := hidp (HU.out.stp st H.out.at0 (by simp [zL])); clear st H; have H := H2; clear H2); (try simp only [Act.put, setIfInBounds_toArray, set_cons_zero, set_cons_succ]); have tk20 := hidp trivial) | (clear tk20; (refine Mm.get0 tyL H rfl (.tmp 12) rfl rfl rfl ?_); (try simp only [Act.put, setIfInBounds_toArray, set_cons_zero, set_cons_succ]); have tk21 := hidp trivial) | (clear tk21; (go_at_call 20; refine (lvc.out _ _ HU.out (HP.out.below H.out.below (Nat.le_refl _))).mono ?_; rintro e _ ⟨rfl, hb⟩; replace H := hidp (H.out.call hb); clear lvc; replace HS := hidp (HS.out.to hb); replace HU := hidp (HU.out.to hb); clear hb); (try simp only [Act.put, setIfInBounds_toArray, set_cons_zero, set_cons_succ]); have tk22 := hidp trivial) | (clear tk22; (refine Mm.get3 rtR H rfl (.tmp 6) rfl rfl rfl ?_); (try simp only [Act.put, setIfInBounds_toArray, set_cons_zero, set_cons_succ]); have tk23 := hidp trivial) | (clear tk23; (go_at_call 21; refine (joi.out _ _ HS.out).mono ?_; rintro x _ ⟨v8, rfl, hs, hb⟩; obtain ⟨a8, c8, rfl, hcell⟩ := hs; have HT := hidp (show StrsAt _ (.slice a8 J.length c8) J from ⟨a8, c8, rfl, hcell⟩); rw [HJN.out] at HT ⊢; replace H := hidp (H.out.call hb); replace HS := hidp (HS.out.to hb); replace HU := hidp (HU.out.to hb); clear hcell hb joi); (try simp only [Act.put, setIfInBounds_toArray, set_cons_zero, set_cons_succ]); have tk24 := hidp trivial))
              as_aux_lemma =>
                go_loopw [105] (fun t105 wr2 => ∃ j : Nat, t105 = .int .i64 (j : Int) ∧ j ≤ nj ∧ StrsAt wr2 (.slice a8 nj c8) J ∧ UsAt wr2 (.slice a9 L.us.length c9) L.us ∧ CsAt wr2 (.slice a7 n7 c7) cs2 ∧ Mm.M w.heap.size w wr2 ([⟨b12, 47, [.int .i64 L.a, .int .i64 L.s, .int .i64 L.i, .int .i64 L.k, .int .i64 L.b, .int .i64 L.r, .slice a9 L.us.length c9]⟩, ⟨b10, 35, [.slice a7 n7 c7, .int .i64 h2, .int .i64 p2, .int .i64 k2]⟩, ⟨b8, 25, e.row⟩, ⟨b6, 35, [.slice a7 n7 c7, .int .i64 h2, .int .i64 p2, .int .i64 k2]⟩, ⟨b3, 35, [.slice a3 n3 c3, .int .i64 R.h, .int .i64 R.ep, .int .i64 R.n]⟩])) (fun t105 _ => nj - (intOf t105).toNat)
                case atStart => exact ⟨0, rfl, by omega, HT.out, HU.out, HS.out, H.out⟩
                case round =>
                  clear H HS HU HT
                  obtain ⟨j, rfl, hj, hT, hU, hS, hM⟩ := hrel
                  have H := hidp hM; have HS := hidp hS; have HU := hidp hU; have HT := hidp hT
                  clear hM hS hU hT
                  by_cases hjl : j < nj
                  · have ej : decide ((j : Int) < (nj : Int)) = true := decide_eq_true (by omega)
                    have hjg : j < J.length := by rw [HJN.out]; exact hjl
                    have HJL := hidp hjl
                    obtain ⟨a8', c8', ee, hcell⟩ := HT.out
                    simp only [Value.slice.injEq] at ee
                    obtain ⟨rfl, -, rfl⟩ := ee
                    obtain ⟨bj, oj, rfl, hcj⟩ := hcell j hjg
                    obtain ⟨u, hu⟩ : ∃ u, J[j] = u := ⟨_, rfl⟩
                    have hmem := HJM.out u (by rw [← hu]; exact List.getElem_mem hjg)
                    rw [hu] at hcj
                    have hof := HOF.out u
                    have g100 : decide (ofL L u > 100) = false := decide_eq_false (by omega)
                    have g101 : decide (100 < ofL L u) = false := decide_eq_false (by omega)
                    obtain ⟨mm, hmm⟩ : ∃ z, memS cs2 u = z := ⟨_, rfl⟩
                    obtain ⟨oo, hoo⟩ : ∃ z, ofL L u = z := ⟨_, rfl⟩
                    have me3 := hidp (fun W h => me2.out W (.slice a7 n7 c7) h u); have of3 := hidp (fun W v h => ofc.out W v u h)
                    rw [hmm] at me3 hmem
                    rw [hoo] at of3 g100 g101
                    have hneq : (mm.toList == ([106, 111, 105, 110] : List UInt8)) = true := by rw [hmem, wJoin_eq]; simp
                    have hi0 : (0 : Int) ≤ (j : Int) := by omega
                    have hi1 : (j : Int) < (nj : Int) := by omega
                    clear hcell hu hmem hof hmm hoo
                    have tk0 := hidp trivial
                    go_wp2_with (first | (clear tk0; (refine Mm.get0 tyL H rfl (.tmp 12) rfl rfl rfl ?_); (try simp only [Act.put, setIfInBounds_toArray, set_cons_zero, set_cons_succ]); have tk1 := hidp trivial) | (clear tk1; (go_at_call 22; refine (of3.out _ _ HU.out).mono ?_; rintro e _ ⟨rfl, hb⟩; replace H := hidp (H.out.call hb); replace HS := hidp (HS.out.to hb); replace HU := hidp (HU.out.to hb); replace HT := hidp (HT.out.below hb (Nat.le_refl _)); clear hb); (try simp only [Act.put, setIfInBounds_toArray, set_cons_zero, set_cons_succ]); have tk2 := hidp trivial) | (clear tk2; (refine Mm.ld3 naSl H rfl (.tmp 114) 0 (.slice a7 n7 c7) rfl rfl rfl ?_); (try simp only [Act.put, setIfInBounds_toArray, set_cons_zero, set_cons_succ]); have tk3 := hidp trivial) | (clear tk3; (go_at_call 11; refine (me3.out _ HS.out).mono ?_; rintro e _ ⟨rfl, hb⟩; replace H := hidp (H.out.call hb); replace HS := hidp (HS.out.to hb); replace HU := hidp (HU.out.to hb); replace HT := hidp (HT.out.below hb (Nat.le_refl _)); clear hb); (try simp only [Act.put, setIfInBounds_toArray, set_cons_zero, set_cons_succ]); have tk4 := hidp trivial))
                    have hj9 := HJL.out
                    exact ⟨⟨j + 1, by go_num, by omega, HT.out, HU.out, HS.out, H.out⟩, by simp [intOf]; omega⟩
                  · have ej : decide ((j : Int) < (nj : Int)) = false := decide_eq_false (by omega)
                    go_wp2_with fail
                    exact ⟨⟨i + 1, ⟨cs2, h2, p2, k2⟩, a7, n7, c7, by go_num, by omega, HR2.out, HL2.out, HF2.out, HS.out, H.out.tail.tail.tail⟩, by simp [intOf]; omega⟩
      · have e1 : decide ((i : Int) < (m : Int)) = false := decide_eq_false (by omega)
        have hin : i = m := by omega
        have hfin := (rnAt_fin hR1 (by rw [HMm.out]; exact hin.symm)).symm.trans HRm.out
        have s1 : (h0 == R.h) = true := by rw [← hfin]; simp
        have s2 : (p0 == R.ep) = true := by rw [← hfin]; simp
        have s3 : (k0 == (m : Int)) = true := by rw [← HQ.out, ← hfin]; simp
        clear hfin hin hR1 hL1 hF1
        have tk0 := hidp trivial
        go_wp2_with (first | (clear tk0; (refine Mm.ld0 naInt H rfl (.tmp 122) 3 (.int .i64 k0) rfl rfl rfl ?_); (try simp only [Act.put, setIfInBounds_toArray, set_cons_zero, set_cons_succ]); have tk1 := hidp trivial) | (clear tk1; (refine Mm.ld0 naInt H rfl (.tmp 127) 1 (.int .i64 h0) rfl rfl rfl ?_); (try simp only [Act.put, setIfInBounds_toArray, set_cons_zero, set_cons_succ]); have tk2 := hidp trivial) | (clear tk2; (refine Mm.ld1 naInt H rfl (.tmp 129) 1 (.int .i64 R.h) rfl rfl rfl ?_); (try simp only [Act.put, setIfInBounds_toArray, set_cons_zero, set_cons_succ]); have tk3 := hidp trivial) | (clear tk3; (refine Mm.ld0 naInt H rfl (.tmp 134) 2 (.int .i64 p0) rfl rfl rfl ?_); (try simp only [Act.put, setIfInBounds_toArray, set_cons_zero, set_cons_succ]); have tk4 := hidp trivial) | (clear tk4; (refine Mm.ld1 naInt H rfl (.tmp 136) 2 (.int .i64 R.ep) rfl rfl rfl ?_); (try simp only [Act.put, setIfInBounds_toArray, set_cons_zero, set_cons_succ]); have tk5 := hidp trivial))
        go_ret
        exact ⟨rfl, H.out.below⟩
end Go.Proofs.YtkcgmimcopoknaaGreatDoor
