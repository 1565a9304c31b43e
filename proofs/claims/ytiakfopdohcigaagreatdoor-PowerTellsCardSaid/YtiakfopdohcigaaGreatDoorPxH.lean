
/-
  power: the document's Text.
-/
import Derived.Test.YtiakfopdohcigaaGreatDoorPxC
import Derived.Test.YtiakfopdohcigaaGreatDoorPxG
namespace Go.Proofs.YtiakfopdohcigaaGreatDoor
set_option maxRecDepth 100000
set_option linter.unusedVariables false
set_option linter.unusedSimpArgs false
open Go.RowKit Rw
open List (getElem_toArray getElem_cons_zero getElem_cons_succ setIfInBounds_toArray set_cons_zero set_cons_succ)

theorem six_w_small (l : Lv) (h : lvOk l = true) (i : Nat) : (spW (six_w l i)).size ≤ 2000 := by
  rw [spW_size]
  have hl : (six_w l i).length ≤ 6 := by unfold six_w; rw [List.length_map]; have : (sixL l).length = 6 := rfl; simp; omega
  have := tot_le 20 (six_w l i) (fun x hx => words_size (lvOk_parts h) x (by
    unfold wordsL
    unfold six_w at hx
    rw [List.mem_map] at hx
    obtain ⟨z, hz, rfl⟩ := hx
    exact List.mem_append_left _ (List.mem_map.2 ⟨z, List.mem_of_mem_take hz, rfl⟩)))
  omega
theorem us_w_small (l : Lv) (h : lvOk l = true) (i : Nat) : (spW (us_w l i)).size ≤ 2000 := by
  rw [spW_size]
  have h16 : l.us.length ≤ 16 := by unfold lvOk at h; simp only [Bool.and_eq_true, decide_eq_true_eq] at h; exact h.1.2
  have hl : (us_w l i).length ≤ 38 := by unfold us_w; rw [List.length_append, List.length_map, flat_two]; have : (sixL l).length = 6 := rfl; simp; omega
  have := tot_le 20 (us_w l i) (fun x hx => words_size (lvOk_parts h) x (by
    unfold wordsL
    unfold us_w at hx
    rcases List.mem_append.1 hx with hx | hx
    · exact List.mem_append_left _ hx
    · refine List.mem_append_right _ ?_
      rw [List.mem_flatMap] at hx ⊢
      obtain ⟨p, hp, hx⟩ := hx
      exact ⟨p, List.mem_of_mem_take hp, hx⟩))
  omega
theorem inR_nat {z : Int} (h : inR z = true) : ∃ m : Nat, z = (m : Int) ∧ m ≤ 100 := by
  unfold inR at h
  simp only [Bool.and_eq_true, decide_eq_true_eq] at h
  exact ⟨z.toNat, by omega, by omega⟩

set_option maxHeartbeats 16000000 in
theorem rlvText_any (w : World) (l : Lv) (v : Value) (hv : UsAt w v l.us) :
    Calls Tryz.prog 19 #[.agg #[.int .i64 l.a, .int .i64 l.s, .int .i64 l.i, .int .i64 l.k, .int .i64 l.b, .int .i64 l.r, v]] w fun e w' => e = .returned (.tuple #[.string (txV l), .int .i64 (lvE l)]) ∧ Below w.heap.size w w' := by
  have ck := hidp (fun W h => rlvCheck_any W l v h)
  have hsz := hidp hv.sz
  have HV := hidp hv; clear hv
  obtain ⟨av, cv, rfl⟩ := HV.out.form
  obtain ⟨n, hn⟩ : ∃ n, l.us.length = n := ⟨_, rfl⟩
  have HN := hidp hn
  have h47 := HV.out.len
  rw [hn] at HV h47 ck ⊢
  clear hn
  have H := hidp (Mm.M.nil w)
  have c6 := hidp (fun W => six2_any W l (.slice av n cv))
  cases hok : lvOk l with
  | false =>
    rw [show lvE l = 2 from by unfold lvE; rw [hok]; rfl] at ck ⊢
    have HT := hidp (show txV l = ⟨#[]⟩ from by unfold txV; rw [hok]; rfl)
    clear hok
    go_enter Tryz.func19, Tryz.ntmps19
    have tk0 := hidp trivial
    go_wp2_with (first | (clear tk0; (refine Mm.box 37 H rfl (.tmp 0) rfl [.int .i64 l.a, .int .i64 l.s, .int .i64 l.i, .int .i64 l.k, .int .i64 l.b, .int .i64 l.r, .slice av n cv] rfl ?_; clear H; intro b1 _ H nw; have hb := nw.below; clear hb nw); (try simp only [Act.put, setIfInBounds_toArray, set_cons_zero, set_cons_succ]); have tk1 := hidp trivial) | (clear tk1; (refine Mm.get0 tyL H rfl (.tmp 1) rfl rfl rfl ?_); (try simp only [Act.put, setIfInBounds_toArray, set_cons_zero, set_cons_succ]); have tk2 := hidp trivial) | (clear tk2; (go_at_call 23; refine (ck.out _ (HV.out.to H.out.below)).mono ?_; rintro e _ ⟨rfl, hb⟩; replace H := hidp (H.out.call hb); clear ck; clear hb); (try simp only [Act.put, setIfInBounds_toArray, set_cons_zero, set_cons_succ]); have tk3 := hidp trivial))
    try clear tk3
    go_ret2
    exact ⟨by rw [HT.out]; rfl, H.out.below⟩
  | true =>
    rw [show lvE l = 0 from by unfold lvE; rw [hok]; rfl] at ck ⊢
    have HOK := hidp hok
    have HT := hidp (show txV l = txL l from by unfold txV; rw [hok]; rfl)
    have HBL := hidp (show (⟨#[32]⟩ : ByteArray) = blank from rfl)
    have hbs : (⟨#[32]⟩ : ByteArray).size = 1 := rfl
    clear hok
    go_enter Tryz.func19, Tryz.ntmps19
    have tk0 := hidp trivial
    go_wp2_with (first | (clear tk0; (refine Mm.box 37 H rfl (.tmp 0) rfl [.int .i64 l.a, .int .i64 l.s, .int .i64 l.i, .int .i64 l.k, .int .i64 l.b, .int .i64 l.r, .slice av n cv] rfl ?_; clear H; intro b1 _ H nw; have hb := nw.below; clear hb nw); (try simp only [Act.put, setIfInBounds_toArray, set_cons_zero, set_cons_succ]); have tk1 := hidp trivial) | (clear tk1; (refine Mm.get0 tyL H rfl (.tmp 1) rfl rfl rfl ?_); (try simp only [Act.put, setIfInBounds_toArray, set_cons_zero, set_cons_succ]); have tk2 := hidp trivial) | (clear tk2; (go_at_call 23; refine (ck.out _ (HV.out.to H.out.below)).mono ?_; rintro e _ ⟨rfl, hb⟩; replace H := hidp (H.out.call hb); clear ck; clear hb); (try simp only [Act.put, setIfInBounds_toArray, set_cons_zero, set_cons_succ]); have tk3 := hidp trivial) | (clear tk3; (refine Mm.get0 tyL H rfl (.tmp 1) rfl rfl rfl ?_); (try simp only [Act.put, setIfInBounds_toArray, set_cons_zero, set_cons_succ]); have tk4 := hidp trivial) | (clear tk4; (go_at_call 63; refine (c6.out _).mono ?_; rintro x _ ⟨v6, rfl, ⟨g, rfl, hge, hg⟩, hb⟩; replace H := hidp (Mm.M.add (m := 0) H.out hb hge hg); clear hg hge hb c6); (try simp only [Act.put, setIfInBounds_toArray, set_cons_zero, set_cons_succ]); have tk5 := hidp trivial))
    try clear tk5
    go_loopw [4, 15] (fun t4 t15 wr => ∃ i : Nat, t15 = .int .i64 (i : Int) ∧ i ≤ 6 ∧ t4 = .string (spW (six_w l i)) ∧ Mm.M w.heap.size w wr [⟨g, 3, [.int .i64 l.a, .int .i64 l.s, .int .i64 l.i, .int .i64 l.k, .int .i64 l.b, .int .i64 l.r]⟩, ⟨b1, 37, [.int .i64 l.a, .int .i64 l.s, .int .i64 l.i, .int .i64 l.k, .int .i64 l.b, .int .i64 l.r, .slice av n cv]⟩]) (fun _ t15 _ => 6 - (intOf t15).toNat)
    case atStart => exact ⟨0, rfl, by omega, rfl, H.out⟩
    case round =>
      clear H
      obtain ⟨i, rfl, hi, rfl, hM⟩ := hrel
      have H := hidp hM
      clear hM
      by_cases hlt : i < 6
      · have e1 : decide ((i : Int) < 6) = true := by simp; omega
        have e1n : (i : Int) < 6 := by omega
        have x1 := six_cellI H.out.at0 hlt
        have hin : inR ((sixL l).getD i 0) = true := by
          have h1 := HOK.out
          unfold lvOk at h1
          simp only [Bool.and_eq_true] at h1
          have hl : i < (sixL l).length := hlt
          rw [List.getD_eq_getElem?_getD, List.getElem?_eq_getElem hl]
          exact List.all_eq_true.1 h1.1.1 _ (List.getElem_mem hl)
        obtain ⟨m, hm, hm100⟩ := inR_nat hin
        rw [hm] at x1
        have cn := hidp (fun W => rnumC_any W m hm100)
        have HST := hidp (six_w_succ l hlt hm)
        have hXs : (itT (m : Int)).size ≤ 3 := itT_size (by rw [← hm]; exact hin)
        have hss := six_w_small l HOK.out i
        obtain ⟨X, hX⟩ : ∃ X, itT (m : Int) = X := ⟨_, rfl⟩
        obtain ⟨ws, hws⟩ : ∃ X, six_w l i = X := ⟨_, rfl⟩
        rw [hX] at cn HST hXs
        rw [hws] at HST hss ⊢
        have HSP := hidp (spW_snoc ws X)
        obtain ⟨s, hs⟩ : ∃ s, spW ws = s := ⟨_, rfl⟩
        rw [hs] at HSP hss ⊢
        have nz1 : ¬ 9223372036854775807 < X.size + (⟨#[32]⟩ : ByteArray).size := by omega
        have nz2 : ¬ 9223372036854775807 < s.size + (X ++ (⟨#[32]⟩ : ByteArray)).size := by rw [ByteArray.size_append]; omega
        clear hm hm100 hin hX hws hs
        have tk0 := hidp trivial
        go_wp2_with (first | (clear tk0; (go_at_call 64; refine (cn.out _).mono ?_; rintro x _ ⟨rfl, rfl⟩; clear cn); (try simp only [Act.put, setIfInBounds_toArray, set_cons_zero, set_cons_succ]); have tk1 := hidp trivial))
        try clear tk1
        exact ⟨⟨i + 1, by go_num, by omega, by rw [HST.out, HSP.out]; rfl, H.out⟩, by simp [intOf]; omega⟩
      · have e1 : decide ((i : Int) < 6) = false := by simp; omega
        obtain rfl : i = 6 := by omega
        have h06 : six_w l 6 = us_w l 0 := by unfold us_w; simp [six_w, sixL]
        rw [h06]
        clear h06 hlt e1
        have tk0 := hidp trivial
        go_wp2_with (first | (clear tk0; (refine Mm.ld1 naSU H rfl (.tmp 25) 6 (.slice av n cv) rfl rfl rfl ?_); (try simp only [Act.put, setIfInBounds_toArray, set_cons_zero, set_cons_succ]); have tk1 := hidp trivial))
        try clear tk1
        go_loopw [4, 28] (fun t4 t28 wr => ∃ i : Nat, t28 = .int .i64 (i : Int) ∧ i ≤ n ∧ t4 = .string (spW (us_w l i)) ∧ Mm.M w.heap.size w wr [⟨b1, 37, [.int .i64 l.a, .int .i64 l.s, .int .i64 l.i, .int .i64 l.k, .int .i64 l.b, .int .i64 l.r, .slice av n cv]⟩]) (fun _ t28 _ => n - (intOf t28).toNat)
        case atStart => exact ⟨0, rfl, by omega, rfl, H.out.tail⟩
        case round =>
          clear H
          obtain ⟨i, rfl, hi, rfl, hM⟩ := hrel
          have H := hidp hM
          clear hM
          by_cases hlt : i < n
          · have e1 : decide ((i : Int) < (n : Int)) = true := by simp; omega
            have hgl : i < l.us.length := by rw [HN.out]; exact hlt
            obtain ⟨BK, off, c0, e2, hc, hBK0, hR0⟩ := HV.out.get (by rw [HN.out]; omega)
            rw [HN.out] at e2
            simp only [Value.slice.injEq] at e2
            obtain ⟨rfl, -, rfl⟩ := e2
            have hBK := hidp hBK0
            obtain ⟨p, hpe⟩ : ∃ p, l.us[i] = p := ⟨_, rfl⟩
            have HRI := hidp (show wr.rangeAt BK (off + 2 * i) (uR p) from by rw [← hpe]; exact rangeAt_below (hR0 i hgl) H.out.below hBK0)
            have hpp : usr p.1 = true ∧ inR p.2 = true := by
              have h1 := HOK.out
              unfold lvOk at h1
              simp only [Bool.and_eq_true] at h1
              have h2 := uTo_le h1.2 hgl
              unfold uAt at h2
              rw [getU hgl, hpe] at h2
              simp only [Bool.and_eq_true] at h2
              exact h2.1
            have hps := usr_size hpp.1
            obtain ⟨m, hm, hm100⟩ := inR_nat hpp.2
            have cn := hidp (fun W => same_bx (rnumC_any W m hm100))
            have HST0 := hidp (us_w_succ l hgl hpe)
            have hXs : (itT (m : Int)).size ≤ 3 := itT_size (by rw [← hm]; exact hpp.2)
            have hss := us_w_small l HOK.out i
            rw [hm] at HST0
            obtain ⟨X, hX⟩ : ∃ X, itT (m : Int) = X := ⟨_, rfl⟩
            obtain ⟨ws, hws⟩ : ∃ X, us_w l i = X := ⟨_, rfl⟩
            rw [hX] at cn HST0 hXs
            rw [hws] at HST0 hss ⊢
            have HSP := hidp (spW_two ws p.1 X)
            obtain ⟨s, hs⟩ : ∃ s, spW ws = s := ⟨_, rfl⟩
            rw [hs] at HSP hss ⊢
            have HST := hidp (show Value.string (s ++ (p.1 ++ blank ++ X ++ blank)) = Value.string (spW (us_w l (i + 1))) from by rw [HST0.out, HSP.out])
            have hb1 : blank.size = 1 := rfl
            have nz1 : ¬ 9223372036854775807 < p.1.size + (⟨#[32]⟩ : ByteArray).size := by omega
            have nz2 : ¬ 9223372036854775807 < (p.1 ++ blank).size + X.size := by rw [ByteArray.size_append]; omega
            have nz3 : ¬ 9223372036854775807 < (p.1 ++ blank ++ X).size + (⟨#[32]⟩ : ByteArray).size := by rw [ByteArray.size_append, ByteArray.size_append]; omega
            have nz4 : ¬ 9223372036854775807 < s.size + (p.1 ++ blank ++ X ++ blank).size := by rw [ByteArray.size_append, ByteArray.size_append, ByteArray.size_append]; omega
            have mz1 : ¬ 9223372036854775807 < p.1.size + 1 := by omega
            have mz2 : ¬ 9223372036854775807 < p.1.size + 1 + X.size := by omega
            have mz3 : ¬ 9223372036854775807 < p.1.size + 1 + X.size + 1 := by omega
            have mz4 : ¬ 9223372036854775807 < s.size + (p.1.size + 1 + X.size + 1) := by omega
            obtain ⟨p1, p2⟩ := p
            simp only at hm
            subst hm
            clear hR0 hBK0 hc hpe hpp hm100 hX hws hs HST0 HSP
            simp only at *
            have tk0 := hidp trivial
            go_wp2_with (first | (clear tk0; (refine wpL_idxR tyU rfl (.tmp 26) (.tmp 28) rfl BK off n _ i rfl rfl hlt ?_); (try simp only [Act.put, setIfInBounds_toArray, set_cons_zero, set_cons_succ]); have tk1 := hidp trivial) | (clear tk1; (refine wpL_atR tyU rfl (.tmp 30) rfl BK (off + 2 * i) (uR (p1, (m : Int))) rfl rfl HRI.out ?_); (try simp only [Act.put, setIfInBounds_toArray, set_cons_zero, set_cons_succ]); have tk2 := hidp trivial) | (clear tk2; (refine Mm.new tyP H (some 8) rfl rfl rfl ?_; clear H; intro b8 _ H nw; have hb := nw.below; clear hb nw); (try simp only [Act.put, setIfInBounds_toArray, set_cons_zero, set_cons_succ]); have tk3 := hidp trivial) | (clear tk3; (refine Mm.put0 tyP H rfl (.tmp 8) (.tmp 31) (uR (p1, (m : Int))) rfl rfl rfl rfl (uR_one _) rfl ?_; intro _ H2 st; clear st H; have H := H2; clear H2); (try simp only [Act.put, setIfInBounds_toArray, set_cons_zero, set_cons_succ]); have tk4 := hidp trivial))
            try clear tk4
            refine Mm.region H (.take 0 (.take 1 (.take 2 (.take 3 (.take 4 (.take 5 (.one 6 (.take 7 (.take 8 (.take 9 (.take 10 .done))))))))))) (by kernel_rfl) (by kernel_rfl) (by simp [Scr.depth]) (by kernel_rfl) ?_
            clear H
            intro _ H hb
            clear hb
            apply s_val
            case ho | hw => rfl
            case hv => intro w hw; go_simp; first | done | rfl
            simp only [Act.put, getElem_toArray, getElem_cons_zero, getElem_cons_succ, setIfInBounds_toArray, set_cons_zero, set_cons_succ]
            apply s_val
            case ho | hw => rfl
            case hv => intro w hw; go_simp; first | done | rfl
            simp only [Act.put, getElem_toArray, getElem_cons_zero, getElem_cons_succ, setIfInBounds_toArray, set_cons_zero, set_cons_succ]
            refine Mm.sld0 naSx (fun w h => h) rfl rfl (.tmp 33) 0 (.string p1) rfl rfl rfl ?_
            simp only [Act.put, getElem_toArray, getElem_cons_zero, getElem_cons_succ, setIfInBounds_toArray, set_cons_zero, set_cons_succ]
            apply s_val (v := .string (p1 ++ blank))
            case ho | hw => rfl
            case hv => intro w hw; have q := mz1; go_simp; first | done | rfl
            simp only [Act.put, getElem_toArray, getElem_cons_zero, getElem_cons_succ, setIfInBounds_toArray, set_cons_zero, set_cons_succ]
            apply s_val
            case ho | hw => rfl
            case hv => intro w hw; go_simp; first | done | rfl
            simp only [Act.put, getElem_toArray, getElem_cons_zero, getElem_cons_succ, setIfInBounds_toArray, set_cons_zero, set_cons_succ]
            refine Mm.sld0 naIx (fun w h => h) rfl rfl (.tmp 36) 1 (.int .i64 (m : Int)) rfl rfl rfl ?_
            simp only [Act.put, getElem_toArray, getElem_cons_zero, getElem_cons_succ, setIfInBounds_toArray, set_cons_zero, set_cons_succ]
            refine Mm.o_callH (v := .string X) H (fun W h => h) rfl rfl 64 (#[.int .i64 (m : Int)]) (by go_simp; first | done | rfl) (cn.out _) ?_
            clear H
            intro _ H hb
            clear hb
            simp only [Act.put, getElem_toArray, getElem_cons_zero, getElem_cons_succ, setIfInBounds_toArray, set_cons_zero, set_cons_succ]
            apply s_val (v := .string (p1 ++ blank ++ X))
            case ho | hw => rfl
            case hv => intro w hw; have q := mz2; go_simp; first | done | rfl
            simp only [Act.put, getElem_toArray, getElem_cons_zero, getElem_cons_succ, setIfInBounds_toArray, set_cons_zero, set_cons_succ]
            apply s_val (v := .string (p1 ++ blank ++ X ++ blank))
            case ho | hw => rfl
            case hv => intro w hw; have q := mz3; go_simp; first | done | rfl
            simp only [Act.put, getElem_toArray, getElem_cons_zero, getElem_cons_succ, setIfInBounds_toArray, set_cons_zero, set_cons_succ]
            apply s_val (v := .string (s ++ (p1 ++ blank ++ X ++ blank)))
            case ho | hw => rfl
            case hv => intro w hw; have q := mz4; go_simp; first | done | rfl
            simp only [Act.put, getElem_toArray, getElem_cons_zero, getElem_cons_succ, setIfInBounds_toArray, set_cons_zero, set_cons_succ]
            apply s_val
            case ho | hw => rfl
            case hv => intro w hw; go_simp; first | done | rfl
            simp only [Act.put, getElem_toArray, getElem_cons_zero, getElem_cons_succ, setIfInBounds_toArray, set_cons_zero, set_cons_succ]
            refine NoPanic.normal ?_
            go_wp2_with fail
            exact ⟨⟨i + 1, by go_num, by omega, HST.out, H.out.tail⟩, by simp [intOf]; omega⟩
          · have e1 : decide ((i : Int) < (n : Int)) = false := by simp; omega
            have hin : i = n := by omega
            have HE := hidp (show us_w l i = wordsL l from by rw [hin, ← HN.out]; exact us_w_end l)
            have hss := us_w_small l HOK.out i
            have HCUT := hidp (spW_cut l)
            have htp : 1 ≤ (spW (wordsL l)).size := by obtain ⟨x, r, e⟩ := words_some l; rw [e, spW_join, ByteArray.size_append]; show 1 ≤ _ + 1; omega
            rw [HE.out] at hss ⊢
            obtain ⟨s, hs⟩ : ∃ s, spW (wordsL l) = s := ⟨_, rfl⟩
            rw [hs] at hss HCUT htp ⊢
            obtain ⟨k, hk⟩ : ∃ k, s.size = k + 1 := ⟨s.size - 1, by omega⟩
            have hw : IntKind.i64.wrap (((k + 1 : Nat) : Int) - 1) = (k : Int) := by rw [IntKind.wrap_i64]; omega
            have hw2 : IntKind.i64.wrap ((k : Int) + 1 - 1) = (k : Int) := by rw [IntKind.wrap_i64]; omega
            have hw64 : wrap64 (k : Int) = (k : Int) := by unfold wrap64; omega
            have c1 : (0 : Int) ≤ (k : Int) := by omega
            have c3 : (k : Int) ≤ (k : Int) + 1 := by omega
            have c4 : (k : Int) ≤ ((k + 1 : Nat) : Int) := by omega
            have c2 : (k : Int) ≤ (s.size : Int) := by omega
            rw [hk, Nat.add_sub_cancel] at HCUT
            have hks := hk
            clear hs hin htp hss
            go_wp2_with fail
            go_ret2
            exact ⟨by rw [HT.out, ← HCUT.out]; rfl, H.out.below⟩
end Go.Proofs.YtiakfopdohcigaaGreatDoor
