/-
  Joined: HoS.
-/
import Derived.Test.YtldokjbfnhgamaaGreatDoorKV
namespace Go.Proofs.YtldokjbfnhgamaaGreatDoor.Ho
set_option maxRecDepth 100000
set_option linter.unusedVariables false
set_option linter.unusedSimpArgs false
open Go.RowKit
open List (getElem_toArray getElem_cons_zero getElem_cons_succ setIfInBounds_toArray set_cons_zero set_cons_succ)


set_option maxHeartbeats 16000000 in
theorem rtext_any (w : World) (d : De) (hd : d.ok) :
    Calls Tryz.prog 12 #[.agg d.row.toArray] w fun e w' => e = .returned (.tuple #[.string (dT d), .int .i64 (dE d)]) ∧ Below w.heap.size w w' := by
  obtain ⟨k, r, ep, ix, hu, nx, sg⟩ := d
  have cc := hidp (show ∀ W, Calls Tryz.prog 20 #[.agg #[.int .u8 (k : Int), .string r, .int .i64 ep, .int .i64 ix, .int .i64 hu, .int .i64 nx, .string sg]] W (fun e w' => e = .returned (.int .i64 (dE (⟨k, r, ep, ix, hu, nx, sg⟩ : De))) ∧ Below W.heap.size W w') from fun W => rdcheck_any W (⟨k, r, ep, ix, hu, nx, sg⟩ : De) hd)
  have ck := hidp (fun W => rword_any W k hd.1)
  show Calls Tryz.prog 12 #[.agg #[.int .u8 (k : Int), .string r, .int .i64 ep, .int .i64 ix, .int .i64 hu, .int .i64 nx, .string sg]] w _
  have H := hidp (Mm.M.nil w)
  cases hok : dOk (⟨k, r, ep, ix, hu, nx, sg⟩ : De) with
  | false =>
    rw [dE_no hok] at cc ⊢
    rw [dT_no hok]
    clear hok ck
    go_enter Tryz.func12, Tryz.ntmps12
    have tk0 := hidp trivial
    go_wp2_with (first | (clear tk0; (refine Mm.box 24 H rfl (.tmp 0) rfl [.int .u8 (k : Int), .string r, .int .i64 ep, .int .i64 ix, .int .i64 hu, .int .i64 nx, .string sg] rfl ?_; clear H; intro b1 _ H nw; have hb := nw.below; clear hb nw); (try simp only [Act.put, setIfInBounds_toArray, set_cons_zero, set_cons_succ]); have tk1 := hidp trivial) | (clear tk1; (refine Mm.get0 rtD H rfl (.tmp 1) rfl rfl rfl ?_); (try simp only [Act.put, setIfInBounds_toArray, set_cons_zero, set_cons_succ]); have tk2 := hidp trivial) | (clear tk2; (go_at_call 20; refine (cc.out _).mono ?_; rintro e _ ⟨rfl, hb⟩; replace H := hidp (H.out.call hb); clear cc; clear hb); (try simp only [Act.put, setIfInBounds_toArray, set_cons_zero, set_cons_succ]); have tk3 := hidp trivial))
    try clear tk3
    go_ret2
    exact ⟨rfl, H.out.below⟩
  | true =>
    rw [dE_yes hok] at cc ⊢
    obtain ⟨h1, ⟨nn, h2⟩, h3, h4, h5, h6, h7, h8⟩ := dOk_parts hok
    simp only at h1 h2 h3 h4 h5 h6 h7 h8
    obtain ⟨ep, rfl⟩ := Int.eq_ofNat_of_zero_le h3.1
    obtain ⟨ix, rfl⟩ := Int.eq_ofNat_of_zero_le h4.1
    obtain ⟨hu, rfl⟩ := Int.eq_ofNat_of_zero_le h5.1
    obtain ⟨nx, rfl⟩ := Int.eq_ofNat_of_zero_le h6.1
    have hk3 : k < 3 := by omega
    have c0 : (0 : Int) ≤ (k : Int) := by omega
    have c1 : (k : Int) < 3 := by omega
    obtain ⟨L0, hL0⟩ : ∃ L, dL (⟨k, r, ep, ix, hu, nx, sg⟩ : De) = L := ⟨_, rfl⟩
    have hL0' : L0 = [dwd k, r, mkS (encN ep), mkS (encN ix), mkS (encN hu), mkS (encN nx)] := by rw [← hL0]; rfl
    have hLok := dL_ok hok
    have HF := hidp (show dT (⟨k, r, ep, ix, hu, nx, sg⟩ : De) = listS L0 ∧ (0 : Int) = listE L0 from by rw [dT_yes hok, hL0, listS_yes (hL0 ▸ hLok), listE_yes (hL0 ▸ hLok)]; exact ⟨rfl, rfl⟩)
    rw [hL0] at hLok
    have cl := hidp (fun W v (hat : StrsAt W v L0) => refList_any W v L0 hat (by have := hLok.1; omega) (fun s hs => by have := hLok.2 s hs; omega))
    rw [HF.out.1, HF.out.2]
    have HT2 := hidp (show strV (L0.take (2 + 0)) = [.string (dwd k), .string r] from by rw [hL0']; rfl)
    have ht6 : L0.take (2 + 4) = L0 := by rw [hL0']; rfl
    have HN := hidp (show ∀ i, i < 4 → ∃ y : Nat, ([.int .i64 (ep : Int), .int .i64 (ix : Int), .int .i64 (hu : Int), .int .i64 (nx : Int)] : List Value)[i]? = some (.int .i64 (y : Int)) ∧ L0.take (2 + i) ++ [mkS (encN y)] = L0.take (2 + (i + 1)) from by
      rw [hL0']
      intro i hi
      rcases (by omega : i = 0 ∨ i = 1 ∨ i = 2 ∨ i = 3) with rfl | rfl | rfl | rfl
      · exact ⟨ep, rfl, rfl⟩
      · exact ⟨ix, rfl, rfl⟩
      · exact ⟨hu, rfl, rfl⟩
      · exact ⟨nx, rfl, rfl⟩)
    have HNB := hidp (show ∀ (i y : Nat), ([.int .i64 (ep : Int), .int .i64 (ix : Int), .int .i64 (hu : Int), .int .i64 (nx : Int)] : List Value)[i]? = some (.int .i64 (y : Int)) → y ≤ 4096 from by
      intro i y hy
      have hm := List.mem_of_getElem? hy
      simp only [List.mem_cons, Value.int.injEq, List.not_mem_nil, or_false, true_and] at hm
      omega)
    clear hok h1 h2 h3 h4 h5 h6 h7 h8 hL0 hL0' hLok hd
    go_enter Tryz.func12, Tryz.ntmps12
    have tk0 := hidp trivial
    go_wp2_with (first | (clear tk0; (refine Mm.box 24 H rfl (.tmp 0) rfl [.int .u8 (k : Int), .string r, .int .i64 (ep : Int), .int .i64 (ix : Int), .int .i64 (hu : Int), .int .i64 (nx : Int), .string sg] rfl ?_; clear H; intro b1 _ H nw; have hb := nw.below; clear hb nw); (try simp only [Act.put, setIfInBounds_toArray, set_cons_zero, set_cons_succ]); have tk1 := hidp trivial) | (clear tk1; (refine Mm.get0 rtD H rfl (.tmp 1) rfl rfl rfl ?_); (try simp only [Act.put, setIfInBounds_toArray, set_cons_zero, set_cons_succ]); have tk2 := hidp trivial) | (clear tk2; (go_at_call 20; refine (cc.out _).mono ?_; rintro e _ ⟨rfl, hb⟩; replace H := hidp (H.out.call hb); clear cc; clear hb); (try simp only [Act.put, setIfInBounds_toArray, set_cons_zero, set_cons_succ]); have tk3 := hidp trivial))
    try clear tk3
    refine Mm.region H (.take 0 (.take 1 (.take 3 (.take 4 (.one 2 (.one 5 (.take 6 .done))))))) (by kernel_rfl) (by kernel_rfl) (by simp [Scr.depth]) (by kernel_rfl) ?_
    clear H
    intro _ H hb
    clear hb
    apply s_val
    case ho | hw => rfl
    case hv => intro w hw; go_simp; first | done | rfl
    simp only [Act.put, getElem_toArray, getElem_cons_zero, getElem_cons_succ, setIfInBounds_toArray, set_cons_zero, set_cons_succ]
    refine Mm.sld0 naDK (fun w h => h) rfl rfl (.tmp 12) 0 (.int .u8 (k : Int)) rfl rfl rfl ?_
    simp only [Act.put, getElem_toArray, getElem_cons_zero, getElem_cons_succ, setIfInBounds_toArray, set_cons_zero, set_cons_succ]
    apply s_val
    case ho | hw => rfl
    case hv => intro w hw; go_simp; first | done | rfl
    simp only [Act.put, getElem_toArray, getElem_cons_zero, getElem_cons_succ, setIfInBounds_toArray, set_cons_zero, set_cons_succ]
    refine Mm.sld0 naS (fun w h => h) rfl rfl (.tmp 15) 1 _ rfl rfl rfl ?_
    simp only [Act.put, getElem_toArray, getElem_cons_zero, getElem_cons_succ, setIfInBounds_toArray, set_cons_zero, set_cons_succ]
    refine Mm.o_callH (v := .string (dwd k)) H (fun W h => h) rfl rfl 57 (#[.int .u8 (k : Int)]) (by go_simp; first | done | rfl) (ck.out _) ?_
    clear H
    intro _ H hb
    clear hb
    simp only [Act.put, getElem_toArray, getElem_cons_zero, getElem_cons_succ, setIfInBounds_toArray, set_cons_zero, set_cons_succ]
    refine Sl.o_bsS2 H (fun W h => h) rfl rfl _ _ (dwd k) r rfl rfl rfl ?_
    clear H
    intro b6 _ H nw
    have hb := nw.below
    clear hb nw
    simp only [Act.put, getElem_toArray, getElem_cons_zero, getElem_cons_succ, setIfInBounds_toArray, set_cons_zero, set_cons_succ]
    apply s_val
    case ho | hw => rfl
    case hv => intro w hw; go_simp; first | done | rfl
    simp only [Act.put, getElem_toArray, getElem_cons_zero, getElem_cons_succ, setIfInBounds_toArray, set_cons_zero, set_cons_succ]
    refine NoPanic.normal ?_
    clear ck
    have HO := hidp (Sl.own_top H.out (by simp))
    replace H := hidp H.out.tail
    have tk0 := hidp trivial
    go_wp2_with (first | (clear tk0; (refine Mm.ld0 naI H rfl (.tmp 18) 2 _ rfl rfl rfl ?_); (try simp only [Act.put, setIfInBounds_toArray, set_cons_zero, set_cons_succ]); have tk1 := hidp trivial) | (clear tk1; (refine Mm.ld0 naI H rfl (.tmp 20) 3 _ rfl rfl rfl ?_); (try simp only [Act.put, setIfInBounds_toArray, set_cons_zero, set_cons_succ]); have tk2 := hidp trivial) | (clear tk2; (refine Mm.ld0 naI H rfl (.tmp 22) 4 _ rfl rfl rfl ?_); (try simp only [Act.put, setIfInBounds_toArray, set_cons_zero, set_cons_succ]); have tk3 := hidp trivial) | (clear tk3; (refine Mm.ld0 naI H rfl (.tmp 24) 5 _ rfl rfl rfl ?_); (try simp only [Act.put, setIfInBounds_toArray, set_cons_zero, set_cons_succ]); have tk4 := hidp trivial) | (clear tk4; (refine Sl.wpL_bsI4 H rfl (.tmp 19) (.tmp 21) (.tmp 23) (.tmp 25) (ep : Int) (ix : Int) (hu : Int) (nx : Int) rfl rfl rfl rfl rfl ?_; clear H; intro b9 _ H nw; have hb := nw.below; replace HO := hidp (Sl.own_to HO.out hb); clear hb nw); (try simp only [Act.put, setIfInBounds_toArray, set_cons_zero, set_cons_succ]); have tk5 := hidp trivial))
    try clear tk5
    have HB0 := hidp H.out.below
    go_loopw [4, 28] (fun t4 t28 wr => ∃ (i : Nat) (v : Value), t28 = .int .i64 (i : Int) ∧ t4 = v ∧ i ≤ 4 ∧ OwnV wr w.heap.size 9 v (strV (L0.take (2 + i))) ∧ Mm.M w.heap.size w wr [⟨b9, 3, [.int .i64 (ep : Int), .int .i64 (ix : Int), .int .i64 (hu : Int), .int .i64 (nx : Int)]⟩]) (fun _ t28 _ => 4 - (intOf t28).toNat)
    case atStart => exact ⟨0, _, rfl, rfl, by omega, by rw [HT2.out]; exact HO.out, H.out.sub (by simp)⟩
    case round =>
      clear HO HB0 H
      obtain ⟨i, v, rfl, rfl, hi, hown, hM⟩ := hrel
      have HO := hidp hown; have H := hidp hM
      clear hown hM
      by_cases hlt : i < 4
      · have e1 : decide ((i : Int) < 4) = true := by simp; omega
        obtain ⟨y, hy, hy2⟩ := HN.out i hlt
        have hyb := HNB.out i y hy
        have HYY := hidp hy
        have w1 : IntKind.u64.wrap (y : Int) = (y : Int) := by unfold IntKind.wrap; simp [IntKind.bits, IntKind.signed]; omega
        have cu := hidp (fun W => refNum_any W y (by omega))
        rw [numS_yes (by omega), numE_yes (by omega)] at cu
        clear hy
        have tk0 := hidp trivial
        go_wp2_with (first | (clear tk0; (refine Sl.wpL_idx1 Sl.tyI (by kernel_rfl) rfl (.tmp 26) (.tmp 28) rfl b9 0 4 4 i rfl rfl hlt ?_); (try simp only [Act.put, setIfInBounds_toArray, set_cons_zero, set_cons_succ]); have tk1 := hidp trivial) | (clear tk1; (refine Mm.ldc naI rfl (.tmp 30) _ (.int .i64 (y : Int)) rfl rfl (by rw [Nat.zero_add]; obtain ⟨hl, he⟩ := List.getElem?_eq_some_iff.1 HYY.out; exact (H.out.at0.cell i hl).trans (by rw [he])) ?_); (try simp only [Act.put, setIfInBounds_toArray, set_cons_zero, set_cons_succ]); have tk2 := hidp trivial) | (clear tk2; (go_at_call 58; refine (cu.out _).mono ?_; rintro e _ ⟨rfl, hb⟩; replace H := hidp (H.out.call hb); clear cu; replace HO := hidp (Sl.own_to HO.out hb); clear hb); (try simp only [Act.put, setIfInBounds_toArray, set_cons_zero, set_cons_succ]); have tk3 := hidp trivial) | (clear tk3; (refine Sl.wpL_bsS1 H rfl (.tmp 39) _ rfl rfl ?_; clear H; intro b8 _ H nw; have hb := nw.below; replace HO := hidp (Sl.own_to HO.out hb); clear hb nw); (try simp only [Act.put, setIfInBounds_toArray, set_cons_zero, set_cons_succ]); have tk4 := hidp trivial) | (clear tk4; (refine wpL_appGS rfl (.tmp 38) (.tmp 40) rfl w.heap.size _ _ b8 _ _ rfl rfl HO.out H.out.at0 rfl (by rw [strV_length, List.length_take]; omega) H.out.le ?_; intro v2 W5 ho2 hg2 hb2; have HB9 := hidp (own_keeps HO.out hg2 H.out.at1 (by decide)); have HB := hidp (H.out.below.trans hb2); have HO2 := hidp ho2; have HLE := hidp (Nat.le_trans H.out.le hb2.size); have HGE := hidp (H.out.ge ⟨b9, 3, [.int .i64 (ep : Int), .int .i64 (ix : Int), .int .i64 (hu : Int), .int .i64 (nx : Int)]⟩ (by simp)); clear ho2 hb2 hg2); (try simp only [Act.put, setIfInBounds_toArray, set_cons_zero, set_cons_succ]); have tk5 := hidp trivial))
        try clear tk5
        refine ⟨⟨i + 1, v2, by go_num, rfl, by omega, ?_, ⟨HB.out, HLE.out, fun x hx => (by simp at hx; subst hx; exact HGE.out), List.pairwise_singleton _ _, fun x hx => (by simp at hx; subst hx; exact HB9.out)⟩⟩, by simp [intOf]; omega⟩
        have h := HO2.out
        rw [strV_snoc, hy2] at h
        exact h
      · have e1 : decide ((i : Int) < 4) = false := by simp; omega
        have hti : L0.take (2 + i) = L0 := by rw [show i = 4 from by omega]; exact ht6
        have tk0 := hidp trivial
        go_wp2_with (first | (clear tk0; (go_at_call 59; refine (cl.out _ _ (by have := HO.out.strs; rw [hti] at this; exact this)).mono ?_; rintro e _ ⟨rfl, hb⟩; replace H := hidp (H.out.call hb); clear cl; clear hb); (try simp only [Act.put, setIfInBounds_toArray, set_cons_zero, set_cons_succ]); have tk1 := hidp trivial))
        try clear tk1
        go_ret2
        exact ⟨rfl, H.out.below⟩

set_option maxHeartbeats 16000000 in
theorem rbytes_any (w : World) (d : De) (hd : d.ok) :
    Calls Tryz.prog 14 #[.agg d.row.toArray] w fun e w' => e = .returned (.tuple #[.string (dB d), .int .i64 (dE d)]) ∧ Below w.heap.size w w' := by
  obtain ⟨k, r, ep, ix, hu, nx, sg⟩ := d
  have cc := hidp (show ∀ W, Calls Tryz.prog 12 #[.agg #[.int .u8 (k : Int), .string r, .int .i64 ep, .int .i64 ix, .int .i64 hu, .int .i64 nx, .string sg]] W (fun e w' => e = .returned (.tuple #[.string (dT (⟨k, r, ep, ix, hu, nx, sg⟩ : De)), .int .i64 (dE (⟨k, r, ep, ix, hu, nx, sg⟩ : De))]) ∧ Below W.heap.size W w') from fun W => rtext_any W (⟨k, r, ep, ix, hu, nx, sg⟩ : De) hd)
  show Calls Tryz.prog 14 #[.agg #[.int .u8 (k : Int), .string r, .int .i64 ep, .int .i64 ix, .int .i64 hu, .int .i64 nx, .string sg]] w _
  have H := hidp (Mm.M.nil w)
  cases hok : dOk (⟨k, r, ep, ix, hu, nx, sg⟩ : De) with
  | false =>
    rw [dE_no hok] at cc ⊢
    rw [dB_no hok]
    obtain ⟨T, hT⟩ : ∃ T, dT (⟨k, r, ep, ix, hu, nx, sg⟩ : De) = T := ⟨_, rfl⟩
    rw [hT] at cc
    clear hok hT
    go_enter Tryz.func14, Tryz.ntmps14
    have tk0 := hidp trivial
    go_wp2_with (first | (clear tk0; (refine Mm.box 24 H rfl (.tmp 0) rfl [.int .u8 (k : Int), .string r, .int .i64 ep, .int .i64 ix, .int .i64 hu, .int .i64 nx, .string sg] rfl ?_; clear H; intro b1 _ H nw; have hb := nw.below; clear hb nw); (try simp only [Act.put, setIfInBounds_toArray, set_cons_zero, set_cons_succ]); have tk1 := hidp trivial) | (clear tk1; (refine Mm.get0 rtD H rfl (.tmp 1) rfl rfl rfl ?_); (try simp only [Act.put, setIfInBounds_toArray, set_cons_zero, set_cons_succ]); have tk2 := hidp trivial) | (clear tk2; (go_at_call 12; refine (cc.out _).mono ?_; rintro e _ ⟨rfl, hb⟩; replace H := hidp (H.out.call hb); clear cc; clear hb); (try simp only [Act.put, setIfInBounds_toArray, set_cons_zero, set_cons_succ]); have tk3 := hidp trivial))
    try clear tk3
    go_ret2
    exact ⟨rfl, H.out.below⟩
  | true =>
    rw [dE_yes hok] at cc ⊢
    have hLok := dB_ok hok
    simp only at hLok
    have hB : dB (⟨k, r, ep, ix, hu, nx, sg⟩ : De) = listS [dT (⟨k, r, ep, ix, hu, nx, sg⟩ : De), sg] := by rw [dB_yes hok, listS_yes hLok]
    have hB2 : (0 : Int) = listE [dT (⟨k, r, ep, ix, hu, nx, sg⟩ : De), sg] := by rw [listE_yes hLok]
    rw [hB]
    conv => rhs; intro e w'; lhs; rhs; rw [show (Value.int IntKind.i64 0) = Value.int IntKind.i64 (listE [dT (⟨k, r, ep, ix, hu, nx, sg⟩ : De), sg]) from by rw [← hB2]]
    clear hB
    obtain ⟨T, hT⟩ : ∃ T, dT (⟨k, r, ep, ix, hu, nx, sg⟩ : De) = T := ⟨_, rfl⟩
    rw [hT] at cc hLok hB2 ⊢
    have cl := hidp (fun W v (hat : StrsAt W v [T, sg]) => refList_any W v [T, sg] hat (by simp) (fun s hs => by have := hLok.2 s hs; omega))
    clear hok hT hB2 hLok hd
    go_enter Tryz.func14, Tryz.ntmps14
    have tk0 := hidp trivial
    go_wp2_with (first | (clear tk0; (refine Mm.box 24 H rfl (.tmp 0) rfl [.int .u8 (k : Int), .string r, .int .i64 ep, .int .i64 ix, .int .i64 hu, .int .i64 nx, .string sg] rfl ?_; clear H; intro b1 _ H nw; have hb := nw.below; clear hb nw); (try simp only [Act.put, setIfInBounds_toArray, set_cons_zero, set_cons_succ]); have tk1 := hidp trivial) | (clear tk1; (refine Mm.get0 rtD H rfl (.tmp 1) rfl rfl rfl ?_); (try simp only [Act.put, setIfInBounds_toArray, set_cons_zero, set_cons_succ]); have tk2 := hidp trivial) | (clear tk2; (go_at_call 12; refine (cc.out _).mono ?_; rintro e _ ⟨rfl, hb⟩; replace H := hidp (H.out.call hb); clear cc; clear hb); (try simp only [Act.put, setIfInBounds_toArray, set_cons_zero, set_cons_succ]); have tk3 := hidp trivial) | (clear tk3; (refine Mm.ld0 naS H rfl (.tmp 15) 6 _ rfl rfl rfl ?_); (try simp only [Act.put, setIfInBounds_toArray, set_cons_zero, set_cons_succ]); have tk4 := hidp trivial) | (clear tk4; (refine Sl.wpL_bsS2 H rfl (.tmp 14) (.tmp 16) _ _ rfl rfl rfl ?_; clear H; intro b6 _ H nw; clear nw); (try simp only [Act.put, setIfInBounds_toArray, set_cons_zero, set_cons_succ]); have tk5 := hidp trivial) | (clear tk5; (go_at_call 59; refine (cl.out _ _ (Sl.own_arr (B := 0) (row := strV [T, sg]) H.out.at0 (Nat.zero_le _) (by simp [strV])).strs).mono ?_; rintro e _ ⟨rfl, hb⟩; replace H := hidp (H.out.call hb); clear cl; clear hb); (try simp only [Act.put, setIfInBounds_toArray, set_cons_zero, set_cons_succ]); have tk6 := hidp trivial))
    try clear tk6
    go_ret2
    exact ⟨rfl, H.out.below⟩

set_option maxHeartbeats 16000000 in
theorem ranswer_any (w : World) (d : De) (hd : d.ok) :
    Calls Tryz.prog 18 #[.agg d.row.toArray] w fun e w' => e = .returned (.tuple #[.agg (anV d).row.toArray, .int .i64 (anE d)]) ∧ Below w.heap.size w w' := by
  obtain ⟨k, r, ep, ix, hu, nx, sg⟩ := d
  have cc := hidp (show ∀ W, Calls Tryz.prog 20 #[.agg #[.int .u8 (k : Int), .string r, .int .i64 ep, .int .i64 ix, .int .i64 hu, .int .i64 nx, .string sg]] W (fun e w' => e = .returned (.int .i64 (dE (⟨k, r, ep, ix, hu, nx, sg⟩ : De))) ∧ Below W.heap.size W w') from fun W => rdcheck_any W (⟨k, r, ep, ix, hu, nx, sg⟩ : De) hd)
  show Calls Tryz.prog 18 #[.agg #[.int .u8 (k : Int), .string r, .int .i64 ep, .int .i64 ix, .int .i64 hu, .int .i64 nx, .string sg]] w _
  have H := hidp (Mm.M.nil w)
  clear hd
  cases hok : dOk (⟨k, r, ep, ix, hu, nx, sg⟩ : De) with
  | false =>
    rw [dE_no hok] at cc
    have HV := hidp (show anV (⟨k, r, ep, ix, hu, nx, sg⟩ : De) = zD from by unfold anV; rw [hok]; rfl)
    have HE := hidp (show anE (⟨k, r, ep, ix, hu, nx, sg⟩ : De) = 2 from by unfold anE; rw [hok]; rfl)
    clear hok
    go_enter Tryz.func18, Tryz.ntmps18
    have tk0 := hidp trivial
    go_wp2_with (first | (clear tk0; (refine Mm.box 24 H rfl (.tmp 0) rfl [.int .u8 (k : Int), .string r, .int .i64 ep, .int .i64 ix, .int .i64 hu, .int .i64 nx, .string sg] rfl ?_; clear H; intro b1 _ H nw; have hb := nw.below; clear hb nw); (try simp only [Act.put, setIfInBounds_toArray, set_cons_zero, set_cons_succ]); have tk1 := hidp trivial) | (clear tk1; (refine Mm.new rtD H (some 2) rfl rfl rfl ?_; clear H; intro b2 _ H nw; have hb := nw.below; clear hb nw); (try simp only [Act.put, setIfInBounds_toArray, set_cons_zero, set_cons_succ]); have tk2 := hidp trivial) | (clear tk2; (refine Mm.get1 rtD H rfl (.tmp 1) rfl rfl rfl ?_); (try simp only [Act.put, setIfInBounds_toArray, set_cons_zero, set_cons_succ]); have tk3 := hidp trivial) | (clear tk3; (go_at_call 20; refine (cc.out _).mono ?_; rintro e _ ⟨rfl, hb⟩; replace H := hidp (H.out.call hb); clear cc; clear hb); (try simp only [Act.put, setIfInBounds_toArray, set_cons_zero, set_cons_succ]); have tk4 := hidp trivial) | (clear tk4; (refine Rt.wpL_build rfl 24 _ rfl zDr (by kernel_rfl) ?_); (try simp only [Act.put, setIfInBounds_toArray, set_cons_zero, set_cons_succ]); have tk5 := hidp trivial) | (clear tk5; (refine Mm.put0 rtD H rfl (.tmp 2) (.tmp 7) zDr rfl rfl rfl rfl (by simp [zDr, Value.oneCell']) rfl ?_; intro _ H2 st; clear st H; have H := H2; clear H2); (try simp only [Act.put, setIfInBounds_toArray, set_cons_zero, set_cons_succ]); have tk6 := hidp trivial))
    try clear tk6
    refine bodyPost_ret (Mm.ret_rowv rtD Tryz.results18 _ b2 _ _ rfl rfl H.out.at0 rfl) rfl ⟨by rw [HV.out, HE.out]; rfl, H.out.below⟩
  | true =>
    rw [dE_yes hok] at cc
    by_cases hk : k = 1
    · have e1 : ((k : Int) != 1) = false := by rw [hk]; rfl
      have HV := hidp (show anV (⟨k, r, ep, ix, hu, nx, sg⟩ : De) = ⟨2, r, ep, ix, hu, nx, ⟨#[]⟩⟩ from by unfold anV; rw [if_pos ⟨hok, hk⟩])
      have HE := hidp (show anE (⟨k, r, ep, ix, hu, nx, sg⟩ : De) = 0 from by unfold anE; rw [hok, if_pos rfl, if_pos hk])
      clear hok hk
      go_enter Tryz.func18, Tryz.ntmps18
      have tk0 := hidp trivial
      go_wp2_with (first | (clear tk0; (refine Mm.box 24 H rfl (.tmp 0) rfl [.int .u8 (k : Int), .string r, .int .i64 ep, .int .i64 ix, .int .i64 hu, .int .i64 nx, .string sg] rfl ?_; clear H; intro b1 _ H nw; have hb := nw.below; clear hb nw); (try simp only [Act.put, setIfInBounds_toArray, set_cons_zero, set_cons_succ]); have tk1 := hidp trivial) | (clear tk1; (refine Mm.new rtD H (some 2) rfl rfl rfl ?_; clear H; intro b2 _ H nw; have hb := nw.below; clear hb nw); (try simp only [Act.put, setIfInBounds_toArray, set_cons_zero, set_cons_succ]); have tk2 := hidp trivial) | (clear tk2; (refine Mm.get1 rtD H rfl (.tmp 1) rfl rfl rfl ?_); (try simp only [Act.put, setIfInBounds_toArray, set_cons_zero, set_cons_succ]); have tk3 := hidp trivial) | (clear tk3; (go_at_call 20; refine (cc.out _).mono ?_; rintro e _ ⟨rfl, hb⟩; replace H := hidp (H.out.call hb); clear cc; clear hb); (try simp only [Act.put, setIfInBounds_toArray, set_cons_zero, set_cons_succ]); have tk4 := hidp trivial) | (clear tk4; (refine Mm.ld1 naDK H rfl (.tmp 8) 0 (.int .u8 (k : Int)) rfl rfl rfl ?_); (try simp only [Act.put, setIfInBounds_toArray, set_cons_zero, set_cons_succ]); have tk5 := hidp trivial) | (clear tk5; (refine Mm.putF1 H rfl 22 (.tmp 12) (.const (.int .u8 2)) 0 (.int .u8 2) rfl rfl rfl (by kernel_rfl) rfl (of_decide_eq_true rfl) ?_; intro _ H2 st; clear st H; have H : Hid (Mm.M w.heap.size w _ ([⟨b2, 24, zDr⟩, ⟨b1, 24, [.int .u8 2, .string r, .int .i64 ep, .int .i64 ix, .int .i64 hu, .int .i64 nx, .string sg]⟩])) := H2; clear H2); (try simp only [Act.put, setIfInBounds_toArray, set_cons_zero, set_cons_succ]); have tk6 := hidp trivial) | (clear tk6; (refine Mm.putF1 H rfl 9 (.tmp 13) (.const (.string ⟨#[]⟩)) 6 (.string ⟨#[]⟩) rfl rfl rfl (by kernel_rfl) rfl (of_decide_eq_true rfl) ?_; intro _ H2 st; clear st H; have H : Hid (Mm.M w.heap.size w _ ([⟨b2, 24, zDr⟩, ⟨b1, 24, [.int .u8 2, .string r, .int .i64 ep, .int .i64 ix, .int .i64 hu, .int .i64 nx, .string ⟨#[]⟩]⟩])) := H2; clear H2); (try simp only [Act.put, setIfInBounds_toArray, set_cons_zero, set_cons_succ]); have tk7 := hidp trivial) | (clear tk7; (refine Mm.get1 rtD H rfl (.tmp 1) rfl rfl rfl ?_); (try simp only [Act.put, setIfInBounds_toArray, set_cons_zero, set_cons_succ]); have tk8 := hidp trivial) | (clear tk8; (refine Mm.put0 rtD H rfl (.tmp 2) (.tmp 14) [.int .u8 2, .string r, .int .i64 ep, .int .i64 ix, .int .i64 hu, .int .i64 nx, .string ⟨#[]⟩] rfl rfl rfl rfl (by simp [Value.oneCell']) rfl ?_; intro _ H2 st; clear st H; have H := H2; clear H2); (try simp only [Act.put, setIfInBounds_toArray, set_cons_zero, set_cons_succ]); have tk9 := hidp trivial))
      try clear tk9
      refine bodyPost_ret (Mm.ret_rowv rtD Tryz.results18 _ b2 _ _ rfl rfl H.out.at0 rfl) rfl ⟨by rw [HV.out, HE.out]; rfl, H.out.below⟩
    · have e1 : ((k : Int) != 1) = true := by simp; omega
      have HV := hidp (show anV (⟨k, r, ep, ix, hu, nx, sg⟩ : De) = zD from by unfold anV; rw [if_neg (fun h => hk h.2)])
      have HE := hidp (show anE (⟨k, r, ep, ix, hu, nx, sg⟩ : De) = 11 from by unfold anE; rw [hok, if_pos rfl, if_neg hk])
      clear hok hk
      go_enter Tryz.func18, Tryz.ntmps18
      have tk0 := hidp trivial
      go_wp2_with (first | (clear tk0; (refine Mm.box 24 H rfl (.tmp 0) rfl [.int .u8 (k : Int), .string r, .int .i64 ep, .int .i64 ix, .int .i64 hu, .int .i64 nx, .string sg] rfl ?_; clear H; intro b1 _ H nw; have hb := nw.below; clear hb nw); (try simp only [Act.put, setIfInBounds_toArray, set_cons_zero, set_cons_succ]); have tk1 := hidp trivial) | (clear tk1; (refine Mm.new rtD H (some 2) rfl rfl rfl ?_; clear H; intro b2 _ H nw; have hb := nw.below; clear hb nw); (try simp only [Act.put, setIfInBounds_toArray, set_cons_zero, set_cons_succ]); have tk2 := hidp trivial) | (clear tk2; (refine Mm.get1 rtD H rfl (.tmp 1) rfl rfl rfl ?_); (try simp only [Act.put, setIfInBounds_toArray, set_cons_zero, set_cons_succ]); have tk3 := hidp trivial) | (clear tk3; (go_at_call 20; refine (cc.out _).mono ?_; rintro e _ ⟨rfl, hb⟩; replace H := hidp (H.out.call hb); clear cc; clear hb); (try simp only [Act.put, setIfInBounds_toArray, set_cons_zero, set_cons_succ]); have tk4 := hidp trivial) | (clear tk4; (refine Mm.ld1 naDK H rfl (.tmp 8) 0 (.int .u8 (k : Int)) rfl rfl rfl ?_); (try simp only [Act.put, setIfInBounds_toArray, set_cons_zero, set_cons_succ]); have tk5 := hidp trivial) | (clear tk5; (refine Rt.wpL_build rfl 24 _ rfl zDr (by kernel_rfl) ?_); (try simp only [Act.put, setIfInBounds_toArray, set_cons_zero, set_cons_succ]); have tk6 := hidp trivial) | (clear tk6; (refine Mm.put0 rtD H rfl (.tmp 2) (.tmp 11) zDr rfl rfl rfl rfl (by simp [zDr, Value.oneCell']) rfl ?_; intro _ H2 st; clear st H; have H := H2; clear H2); (try simp only [Act.put, setIfInBounds_toArray, set_cons_zero, set_cons_succ]); have tk7 := hidp trivial))
      try clear tk7
      refine bodyPost_ret (Mm.ret_rowv rtD Tryz.results18 _ b2 _ _ rfl rfl H.out.at0 rfl) rfl ⟨by rw [HV.out, HE.out]; rfl, H.out.below⟩

theorem fits_kind {d e : De} (h : ¬ (d.k = 1 ∧ e.k = 2)) : fits d e = false := by
  unfold fits
  by_cases h1 : d.k = 1
  · have h2 : ¬ e.k = 2 := fun g => h ⟨h1, g⟩
    simp [h2]
  · simp [h1]
theorem fits_ok {d e : De} (h : dOk d = true) (he : dOk e = true) (h1 : d.k = 1) (h2 : e.k = 2) : fits d e = decide (d.r = e.r ∧ d.e = e.e ∧ d.i = e.i ∧ d.h = e.h ∧ d.n = e.n) := by
  unfold fits
  rw [h, he, Bool.eq_iff_iff]
  simp only [h1, h2, Bool.and_eq_true, decide_eq_true_eq, beq_iff_eq, true_and, and_true]
  constructor
  · rintro ⟨⟨⟨⟨h3, h4⟩, h5⟩, h6⟩, h7⟩; exact ⟨toL_inj h3, h4, h5, h6, h7⟩
  · rintro ⟨h3, h4, h5, h6, h7⟩; exact ⟨⟨⟨⟨by rw [h3], h4⟩, h5⟩, h6⟩, h7⟩
theorem fits_no1 {d e : De} (h : dOk d = false) : fits d e = false := by unfold fits; simp [h]
set_option maxHeartbeats 32000000 in
theorem rfits_any (w : World) (d e : De) (hd : d.ok) (hde : e.ok) :
    Calls Tryz.prog 22 #[.agg d.row.toArray, .agg e.row.toArray] w fun x w' => x = .returned (.bool (fits d e)) ∧ Below w.heap.size w w' := by
  obtain ⟨k, r, ep, ix, hu, nx, sg⟩ := d
  obtain ⟨ke, re, ee, ie, he, ne, ge⟩ := e
  have cd := hidp (show ∀ W, Calls Tryz.prog 20 #[.agg #[.int .u8 (k : Int), .string r, .int .i64 ep, .int .i64 ix, .int .i64 hu, .int .i64 nx, .string sg]] W (fun e w' => e = .returned (.int .i64 (dE (⟨k, r, ep, ix, hu, nx, sg⟩ : De))) ∧ Below W.heap.size W w') from fun W => rdcheck_any W (⟨k, r, ep, ix, hu, nx, sg⟩ : De) hd)
  have ce := hidp (show ∀ W, Calls Tryz.prog 20 #[.agg #[.int .u8 (ke : Int), .string re, .int .i64 ee, .int .i64 ie, .int .i64 he, .int .i64 ne, .string ge]] W (fun e w' => e = .returned (.int .i64 (dE (⟨ke, re, ee, ie, he, ne, ge⟩ : De))) ∧ Below W.heap.size W w') from fun W => rdcheck_any W (⟨ke, re, ee, ie, he, ne, ge⟩ : De) hde)
  show Calls Tryz.prog 22 #[.agg #[.int .u8 (k : Int), .string r, .int .i64 ep, .int .i64 ix, .int .i64 hu, .int .i64 nx, .string sg], .agg #[.int .u8 (ke : Int), .string re, .int .i64 ee, .int .i64 ie, .int .i64 he, .int .i64 ne, .string ge]] w _
  have H := hidp (Mm.M.nil w)
  clear hd hde
  cases h1 : dOk (⟨k, r, ep, ix, hu, nx, sg⟩ : De) with
  | false =>
    rw [dE_no h1] at cd
    have HF := hidp (show fits (⟨k, r, ep, ix, hu, nx, sg⟩ : De) (⟨ke, re, ee, ie, he, ne, ge⟩ : De) = false from fits_no1 h1)
    clear h1 ce
    go_enter Tryz.func22, Tryz.ntmps22
    have tk0 := hidp trivial
    go_wp2_with (first | (clear tk0; (refine Mm.box 24 H rfl (.tmp 0) rfl [.int .u8 (k : Int), .string r, .int .i64 ep, .int .i64 ix, .int .i64 hu, .int .i64 nx, .string sg] rfl ?_; clear H; intro b2 _ H nw; have hb := nw.below; clear hb nw); (try simp only [Act.put, setIfInBounds_toArray, set_cons_zero, set_cons_succ]); have tk1 := hidp trivial) | (clear tk1; (refine Mm.box 24 H rfl (.tmp 1) rfl [.int .u8 (ke : Int), .string re, .int .i64 ee, .int .i64 ie, .int .i64 he, .int .i64 ne, .string ge] rfl ?_; clear H; intro b3 _ H nw; have hb := nw.below; clear hb nw); (try simp only [Act.put, setIfInBounds_toArray, set_cons_zero, set_cons_succ]); have tk2 := hidp trivial) | (clear tk2; (refine Mm.get1 rtD H rfl (.tmp 2) rfl rfl rfl ?_); (try simp only [Act.put, setIfInBounds_toArray, set_cons_zero, set_cons_succ]); have tk3 := hidp trivial) | (clear tk3; (go_at_call 20; refine (cd.out _).mono ?_; rintro e _ ⟨rfl, hb⟩; replace H := hidp (H.out.call hb); clear cd; clear hb); (try simp only [Act.put, setIfInBounds_toArray, set_cons_zero, set_cons_succ]); have tk4 := hidp trivial))
    try clear tk4
    go_ret
    exact ⟨by rw [HF.out]; rfl, H.out.below⟩
  | true =>
    rw [dE_yes h1] at cd
    cases h2 : dOk (⟨ke, re, ee, ie, he, ne, ge⟩ : De) with
    | false =>
      rw [dE_no h2] at ce
      have HF := hidp (show fits (⟨k, r, ep, ix, hu, nx, sg⟩ : De) (⟨ke, re, ee, ie, he, ne, ge⟩ : De) = false from fits_bad h2)
      clear h1 h2
      go_enter Tryz.func22, Tryz.ntmps22
      have tk0 := hidp trivial
      go_wp2_with (first | (clear tk0; (refine Mm.box 24 H rfl (.tmp 0) rfl [.int .u8 (k : Int), .string r, .int .i64 ep, .int .i64 ix, .int .i64 hu, .int .i64 nx, .string sg] rfl ?_; clear H; intro b2 _ H nw; have hb := nw.below; clear hb nw); (try simp only [Act.put, setIfInBounds_toArray, set_cons_zero, set_cons_succ]); have tk1 := hidp trivial) | (clear tk1; (refine Mm.box 24 H rfl (.tmp 1) rfl [.int .u8 (ke : Int), .string re, .int .i64 ee, .int .i64 ie, .int .i64 he, .int .i64 ne, .string ge] rfl ?_; clear H; intro b3 _ H nw; have hb := nw.below; clear hb nw); (try simp only [Act.put, setIfInBounds_toArray, set_cons_zero, set_cons_succ]); have tk2 := hidp trivial) | (clear tk2; (refine Mm.get1 rtD H rfl (.tmp 2) rfl rfl rfl ?_); (try simp only [Act.put, setIfInBounds_toArray, set_cons_zero, set_cons_succ]); have tk3 := hidp trivial) | (clear tk3; (go_at_call 20; refine (cd.out _).mono ?_; rintro e _ ⟨rfl, hb⟩; replace H := hidp (H.out.call hb); clear cd; clear hb); (try simp only [Act.put, setIfInBounds_toArray, set_cons_zero, set_cons_succ]); have tk4 := hidp trivial) | (clear tk4; (refine Mm.get0 rtD H rfl (.tmp 3) rfl rfl rfl ?_); (try simp only [Act.put, setIfInBounds_toArray, set_cons_zero, set_cons_succ]); have tk5 := hidp trivial) | (clear tk5; (go_at_call 20; refine (ce.out _).mono ?_; rintro e _ ⟨rfl, hb⟩; replace H := hidp (H.out.call hb); clear ce; clear hb); (try simp only [Act.put, setIfInBounds_toArray, set_cons_zero, set_cons_succ]); have tk6 := hidp trivial))
      try clear tk6
      go_ret
      exact ⟨by rw [HF.out]; rfl, H.out.below⟩
    | true =>
      rw [dE_yes h2] at ce
      by_cases hk : k = 1
      · have d1 : ((k : Int) != 1) = false := by rw [hk]; rfl
        by_cases hl : ke = 2
        · have d2 : ((ke : Int) != 2) = false := by rw [hl]; rfl
          have hq := fits_ok (d := (⟨k, r, ep, ix, hu, nx, sg⟩ : De)) (e := (⟨ke, re, ee, ie, he, ne, ge⟩ : De)) h1 h2 hk hl
          simp only at hq
          have HNN := hidp (show ¬ (r = re ∧ ep = ee ∧ ix = ie ∧ hu = he ∧ nx = ne) → fits (⟨k, r, ep, ix, hu, nx, sg⟩ : De) (⟨ke, re, ee, ie, he, ne, ge⟩ : De) = false from fun g => by rw [hq]; exact decide_eq_false g)
          have HYY := hidp (show r = re → ep = ee → ix = ie → hu = he → nx = ne → fits (⟨k, r, ep, ix, hu, nx, sg⟩ : De) (⟨ke, re, ee, ie, he, ne, ge⟩ : De) = true from fun g0 g1 g2 g3 g4 => by rw [hq]; exact decide_eq_true ⟨g0, g1, g2, g3, g4⟩)
          clear hq h1 h2 hk hl
          by_cases q0 : r = re
          · have z0 : (r.toList == re.toList) = true := by rw [q0]; simp
            by_cases q1 : ep = ee
            · have z1 : (ep == ee) = true := by rw [q1]; simp
              by_cases q2 : ix = ie
              · have z2 : (ix == ie) = true := by rw [q2]; simp
                by_cases q3 : hu = he
                · have z3 : (hu == he) = true := by rw [q3]; simp
                  by_cases q4 : nx = ne
                  · have z4 : (nx == ne) = true := by rw [q4]; simp
                    have HF := hidp (show fits (⟨k, r, ep, ix, hu, nx, sg⟩ : De) (⟨ke, re, ee, ie, he, ne, ge⟩ : De) = true from HYY.out q0 q1 q2 q3 q4)
                    clear q0 q1 q2 q3 q4
                    go_enter Tryz.func22, Tryz.ntmps22
                    have tk0 := hidp trivial
                    go_wp2_with (first | (clear tk0; (refine Mm.box 24 H rfl (.tmp 0) rfl [.int .u8 (k : Int), .string r, .int .i64 ep, .int .i64 ix, .int .i64 hu, .int .i64 nx, .string sg] rfl ?_; clear H; intro b2 _ H nw; have hb := nw.below; clear hb nw); (try simp only [Act.put, setIfInBounds_toArray, set_cons_zero, set_cons_succ]); have tk1 := hidp trivial) | (clear tk1; (refine Mm.box 24 H rfl (.tmp 1) rfl [.int .u8 (ke : Int), .string re, .int .i64 ee, .int .i64 ie, .int .i64 he, .int .i64 ne, .string ge] rfl ?_; clear H; intro b3 _ H nw; have hb := nw.below; clear hb nw); (try simp only [Act.put, setIfInBounds_toArray, set_cons_zero, set_cons_succ]); have tk2 := hidp trivial) | (clear tk2; (refine Mm.get1 rtD H rfl (.tmp 2) rfl rfl rfl ?_); (try simp only [Act.put, setIfInBounds_toArray, set_cons_zero, set_cons_succ]); have tk3 := hidp trivial) | (clear tk3; (go_at_call 20; refine (cd.out _).mono ?_; rintro e _ ⟨rfl, hb⟩; replace H := hidp (H.out.call hb); clear cd; clear hb); (try simp only [Act.put, setIfInBounds_toArray, set_cons_zero, set_cons_succ]); have tk4 := hidp trivial) | (clear tk4; (refine Mm.get0 rtD H rfl (.tmp 3) rfl rfl rfl ?_); (try simp only [Act.put, setIfInBounds_toArray, set_cons_zero, set_cons_succ]); have tk5 := hidp trivial) | (clear tk5; (go_at_call 20; refine (ce.out _).mono ?_; rintro e _ ⟨rfl, hb⟩; replace H := hidp (H.out.call hb); clear ce; clear hb); (try simp only [Act.put, setIfInBounds_toArray, set_cons_zero, set_cons_succ]); have tk6 := hidp trivial) | (clear tk6; (refine Mm.ld1 naDK H rfl (.tmp 14) 0 (.int .u8 (k : Int)) rfl rfl rfl ?_); (try simp only [Act.put, setIfInBounds_toArray, set_cons_zero, set_cons_succ]); have tk7 := hidp trivial) | (clear tk7; (refine Mm.ld0 naDK H rfl (.tmp 19) 0 (.int .u8 (ke : Int)) rfl rfl rfl ?_); (try simp only [Act.put, setIfInBounds_toArray, set_cons_zero, set_cons_succ]); have tk8 := hidp trivial) | (clear tk8; (refine Mm.ld1 naS H rfl (.tmp 23) 1 _ rfl rfl rfl ?_); (try simp only [Act.put, setIfInBounds_toArray, set_cons_zero, set_cons_succ]); have tk9 := hidp trivial) | (clear tk9; (refine Mm.ld0 naS H rfl (.tmp 25) 1 _ rfl rfl rfl ?_); (try simp only [Act.put, setIfInBounds_toArray, set_cons_zero, set_cons_succ]); have tk10 := hidp trivial) | (clear tk10; (refine Mm.ld1 naI H rfl (.tmp 29) 2 _ rfl rfl rfl ?_); (try simp only [Act.put, setIfInBounds_toArray, set_cons_zero, set_cons_succ]); have tk11 := hidp trivial) | (clear tk11; (refine Mm.ld0 naI H rfl (.tmp 31) 2 _ rfl rfl rfl ?_); (try simp only [Act.put, setIfInBounds_toArray, set_cons_zero, set_cons_succ]); have tk12 := hidp trivial) | (clear tk12; (refine Mm.ld1 naI H rfl (.tmp 36) 3 _ rfl rfl rfl ?_); (try simp only [Act.put, setIfInBounds_toArray, set_cons_zero, set_cons_succ]); have tk13 := hidp trivial) | (clear tk13; (refine Mm.ld0 naI H rfl (.tmp 38) 3 _ rfl rfl rfl ?_); (try simp only [Act.put, setIfInBounds_toArray, set_cons_zero, set_cons_succ]); have tk14 := hidp trivial) | (clear tk14; (refine Mm.ld1 naI H rfl (.tmp 43) 4 _ rfl rfl rfl ?_); (try simp only [Act.put, setIfInBounds_toArray, set_cons_zero, set_cons_succ]); have tk15 := hidp trivial) | (clear tk15; (refine Mm.ld0 naI H rfl (.tmp 45) 4 _ rfl rfl rfl ?_); (try simp only [Act.put, setIfInBounds_toArray, set_cons_zero, set_cons_succ]); have tk16 := hidp trivial) | (clear tk16; (refine Mm.ld1 naI H rfl (.tmp 50) 5 _ rfl rfl rfl ?_); (try simp only [Act.put, setIfInBounds_toArray, set_cons_zero, set_cons_succ]); have tk17 := hidp trivial) | (clear tk17; (refine Mm.ld0 naI H rfl (.tmp 52) 5 _ rfl rfl rfl ?_); (try simp only [Act.put, setIfInBounds_toArray, set_cons_zero, set_cons_succ]); have tk18 := hidp trivial))
                    try clear tk18
                    go_ret
                    exact ⟨by rw [HF.out]; rfl, H.out.below⟩
                  · have z4 : (nx == ne) = false := by rw [beq_eq_false_iff_ne]; exact q4
                    have HF := hidp (show fits (⟨k, r, ep, ix, hu, nx, sg⟩ : De) (⟨ke, re, ee, ie, he, ne, ge⟩ : De) = false from HNN.out fun g => q4 g.2.2.2.2)
                    clear q0 q1 q2 q3 q4
                    go_enter Tryz.func22, Tryz.ntmps22
                    have tk0 := hidp trivial
                    go_wp2_with (first | (clear tk0; (refine Mm.box 24 H rfl (.tmp 0) rfl [.int .u8 (k : Int), .string r, .int .i64 ep, .int .i64 ix, .int .i64 hu, .int .i64 nx, .string sg] rfl ?_; clear H; intro b2 _ H nw; have hb := nw.below; clear hb nw); (try simp only [Act.put, setIfInBounds_toArray, set_cons_zero, set_cons_succ]); have tk1 := hidp trivial) | (clear tk1; (refine Mm.box 24 H rfl (.tmp 1) rfl [.int .u8 (ke : Int), .string re, .int .i64 ee, .int .i64 ie, .int .i64 he, .int .i64 ne, .string ge] rfl ?_; clear H; intro b3 _ H nw; have hb := nw.below; clear hb nw); (try simp only [Act.put, setIfInBounds_toArray, set_cons_zero, set_cons_succ]); have tk2 := hidp trivial) | (clear tk2; (refine Mm.get1 rtD H rfl (.tmp 2) rfl rfl rfl ?_); (try simp only [Act.put, setIfInBounds_toArray, set_cons_zero, set_cons_succ]); have tk3 := hidp trivial) | (clear tk3; (go_at_call 20; refine (cd.out _).mono ?_; rintro e _ ⟨rfl, hb⟩; replace H := hidp (H.out.call hb); clear cd; clear hb); (try simp only [Act.put, setIfInBounds_toArray, set_cons_zero, set_cons_succ]); have tk4 := hidp trivial) | (clear tk4; (refine Mm.get0 rtD H rfl (.tmp 3) rfl rfl rfl ?_); (try simp only [Act.put, setIfInBounds_toArray, set_cons_zero, set_cons_succ]); have tk5 := hidp trivial) | (clear tk5; (go_at_call 20; refine (ce.out _).mono ?_; rintro e _ ⟨rfl, hb⟩; replace H := hidp (H.out.call hb); clear ce; clear hb); (try simp only [Act.put, setIfInBounds_toArray, set_cons_zero, set_cons_succ]); have tk6 := hidp trivial) | (clear tk6; (refine Mm.ld1 naDK H rfl (.tmp 14) 0 (.int .u8 (k : Int)) rfl rfl rfl ?_); (try simp only [Act.put, setIfInBounds_toArray, set_cons_zero, set_cons_succ]); have tk7 := hidp trivial) | (clear tk7; (refine Mm.ld0 naDK H rfl (.tmp 19) 0 (.int .u8 (ke : Int)) rfl rfl rfl ?_); (try simp only [Act.put, setIfInBounds_toArray, set_cons_zero, set_cons_succ]); have tk8 := hidp trivial) | (clear tk8; (refine Mm.ld1 naS H rfl (.tmp 23) 1 _ rfl rfl rfl ?_); (try simp only [Act.put, setIfInBounds_toArray, set_cons_zero, set_cons_succ]); have tk9 := hidp trivial) | (clear tk9; (refine Mm.ld0 naS H rfl (.tmp 25) 1 _ rfl rfl rfl ?_); (try simp only [Act.put, setIfInBounds_toArray, set_cons_zero, set_cons_succ]); have tk10 := hidp trivial) | (clear tk10; (refine Mm.ld1 naI H rfl (.tmp 29) 2 _ rfl rfl rfl ?_); (try simp only [Act.put, setIfInBounds_toArray, set_cons_zero, set_cons_succ]); have tk11 := hidp trivial) | (clear tk11; (refine Mm.ld0 naI H rfl (.tmp 31) 2 _ rfl rfl rfl ?_); (try simp only [Act.put, setIfInBounds_toArray, set_cons_zero, set_cons_succ]); have tk12 := hidp trivial) | (clear tk12; (refine Mm.ld1 naI H rfl (.tmp 36) 3 _ rfl rfl rfl ?_); (try simp only [Act.put, setIfInBounds_toArray, set_cons_zero, set_cons_succ]); have tk13 := hidp trivial) | (clear tk13; (refine Mm.ld0 naI H rfl (.tmp 38) 3 _ rfl rfl rfl ?_); (try simp only [Act.put, setIfInBounds_toArray, set_cons_zero, set_cons_succ]); have tk14 := hidp trivial) | (clear tk14; (refine Mm.ld1 naI H rfl (.tmp 43) 4 _ rfl rfl rfl ?_); (try simp only [Act.put, setIfInBounds_toArray, set_cons_zero, set_cons_succ]); have tk15 := hidp trivial) | (clear tk15; (refine Mm.ld0 naI H rfl (.tmp 45) 4 _ rfl rfl rfl ?_); (try simp only [Act.put, setIfInBounds_toArray, set_cons_zero, set_cons_succ]); have tk16 := hidp trivial) | (clear tk16; (refine Mm.ld1 naI H rfl (.tmp 50) 5 _ rfl rfl rfl ?_); (try simp only [Act.put, setIfInBounds_toArray, set_cons_zero, set_cons_succ]); have tk17 := hidp trivial) | (clear tk17; (refine Mm.ld0 naI H rfl (.tmp 52) 5 _ rfl rfl rfl ?_); (try simp only [Act.put, setIfInBounds_toArray, set_cons_zero, set_cons_succ]); have tk18 := hidp trivial))
                    try clear tk18
                    go_ret
                    exact ⟨by rw [HF.out]; rfl, H.out.below⟩
                · have z3 : (hu == he) = false := by rw [beq_eq_false_iff_ne]; exact q3
                  have HF := hidp (show fits (⟨k, r, ep, ix, hu, nx, sg⟩ : De) (⟨ke, re, ee, ie, he, ne, ge⟩ : De) = false from HNN.out fun g => q3 g.2.2.2.1)
                  clear q0 q1 q2 q3
                  go_enter Tryz.func22, Tryz.ntmps22
                  have tk0 := hidp trivial
                  go_wp2_with (first | (clear tk0; (refine Mm.box 24 H rfl (.tmp 0) rfl [.int .u8 (k : Int), .string r, .int .i64 ep, .int .i64 ix, .int .i64 hu, .int .i64 nx, .string sg] rfl ?_; clear H; intro b2 _ H nw; have hb := nw.below; clear hb nw); (try simp only [Act.put, setIfInBounds_toArray, set_cons_zero, set_cons_succ]); have tk1 := hidp trivial) | (clear tk1; (refine Mm.box 24 H rfl (.tmp 1) rfl [.int .u8 (ke : Int), .string re, .int .i64 ee, .int .i64 ie, .int .i64 he, .int .i64 ne, .string ge] rfl ?_; clear H; intro b3 _ H nw; have hb := nw.below; clear hb nw); (try simp only [Act.put, setIfInBounds_toArray, set_cons_zero, set_cons_succ]); have tk2 := hidp trivial) | (clear tk2; (refine Mm.get1 rtD H rfl (.tmp 2) rfl rfl rfl ?_); (try simp only [Act.put, setIfInBounds_toArray, set_cons_zero, set_cons_succ]); have tk3 := hidp trivial) | (clear tk3; (go_at_call 20; refine (cd.out _).mono ?_; rintro e _ ⟨rfl, hb⟩; replace H := hidp (H.out.call hb); clear cd; clear hb); (try simp only [Act.put, setIfInBounds_toArray, set_cons_zero, set_cons_succ]); have tk4 := hidp trivial) | (clear tk4; (refine Mm.get0 rtD H rfl (.tmp 3) rfl rfl rfl ?_); (try simp only [Act.put, setIfInBounds_toArray, set_cons_zero, set_cons_succ]); have tk5 := hidp trivial) | (clear tk5; (go_at_call 20; refine (ce.out _).mono ?_; rintro e _ ⟨rfl, hb⟩; replace H := hidp (H.out.call hb); clear ce; clear hb); (try simp only [Act.put, setIfInBounds_toArray, set_cons_zero, set_cons_succ]); have tk6 := hidp trivial) | (clear tk6; (refine Mm.ld1 naDK H rfl (.tmp 14) 0 (.int .u8 (k : Int)) rfl rfl rfl ?_); (try simp only [Act.put, setIfInBounds_toArray, set_cons_zero, set_cons_succ]); have tk7 := hidp trivial) | (clear tk7; (refine Mm.ld0 naDK H rfl (.tmp 19) 0 (.int .u8 (ke : Int)) rfl rfl rfl ?_); (try simp only [Act.put, setIfInBounds_toArray, set_cons_zero, set_cons_succ]); have tk8 := hidp trivial) | (clear tk8; (refine Mm.ld1 naS H rfl (.tmp 23) 1 _ rfl rfl rfl ?_); (try simp only [Act.put, setIfInBounds_toArray, set_cons_zero, set_cons_succ]); have tk9 := hidp trivial) | (clear tk9; (refine Mm.ld0 naS H rfl (.tmp 25) 1 _ rfl rfl rfl ?_); (try simp only [Act.put, setIfInBounds_toArray, set_cons_zero, set_cons_succ]); have tk10 := hidp trivial) | (clear tk10; (refine Mm.ld1 naI H rfl (.tmp 29) 2 _ rfl rfl rfl ?_); (try simp only [Act.put, setIfInBounds_toArray, set_cons_zero, set_cons_succ]); have tk11 := hidp trivial) | (clear tk11; (refine Mm.ld0 naI H rfl (.tmp 31) 2 _ rfl rfl rfl ?_); (try simp only [Act.put, setIfInBounds_toArray, set_cons_zero, set_cons_succ]); have tk12 := hidp trivial) | (clear tk12; (refine Mm.ld1 naI H rfl (.tmp 36) 3 _ rfl rfl rfl ?_); (try simp only [Act.put, setIfInBounds_toArray, set_cons_zero, set_cons_succ]); have tk13 := hidp trivial) | (clear tk13; (refine Mm.ld0 naI H rfl (.tmp 38) 3 _ rfl rfl rfl ?_); (try simp only [Act.put, setIfInBounds_toArray, set_cons_zero, set_cons_succ]); have tk14 := hidp trivial) | (clear tk14; (refine Mm.ld1 naI H rfl (.tmp 43) 4 _ rfl rfl rfl ?_); (try simp only [Act.put, setIfInBounds_toArray, set_cons_zero, set_cons_succ]); have tk15 := hidp trivial) | (clear tk15; (refine Mm.ld0 naI H rfl (.tmp 45) 4 _ rfl rfl rfl ?_); (try simp only [Act.put, setIfInBounds_toArray, set_cons_zero, set_cons_succ]); have tk16 := hidp trivial))
                  try clear tk16
                  go_ret
                  exact ⟨by rw [HF.out]; rfl, H.out.below⟩
              · have z2 : (ix == ie) = false := by rw [beq_eq_false_iff_ne]; exact q2
                have HF := hidp (show fits (⟨k, r, ep, ix, hu, nx, sg⟩ : De) (⟨ke, re, ee, ie, he, ne, ge⟩ : De) = false from HNN.out fun g => q2 g.2.2.1)
                clear q0 q1 q2
                go_enter Tryz.func22, Tryz.ntmps22
                have tk0 := hidp trivial
                go_wp2_with (first | (clear tk0; (refine Mm.box 24 H rfl (.tmp 0) rfl [.int .u8 (k : Int), .string r, .int .i64 ep, .int .i64 ix, .int .i64 hu, .int .i64 nx, .string sg] rfl ?_; clear H; intro b2 _ H nw; have hb := nw.below; clear hb nw); (try simp only [Act.put, setIfInBounds_toArray, set_cons_zero, set_cons_succ]); have tk1 := hidp trivial) | (clear tk1; (refine Mm.box 24 H rfl (.tmp 1) rfl [.int .u8 (ke : Int), .string re, .int .i64 ee, .int .i64 ie, .int .i64 he, .int .i64 ne, .string ge] rfl ?_; clear H; intro b3 _ H nw; have hb := nw.below; clear hb nw); (try simp only [Act.put, setIfInBounds_toArray, set_cons_zero, set_cons_succ]); have tk2 := hidp trivial) | (clear tk2; (refine Mm.get1 rtD H rfl (.tmp 2) rfl rfl rfl ?_); (try simp only [Act.put, setIfInBounds_toArray, set_cons_zero, set_cons_succ]); have tk3 := hidp trivial) | (clear tk3; (go_at_call 20; refine (cd.out _).mono ?_; rintro e _ ⟨rfl, hb⟩; replace H := hidp (H.out.call hb); clear cd; clear hb); (try simp only [Act.put, setIfInBounds_toArray, set_cons_zero, set_cons_succ]); have tk4 := hidp trivial) | (clear tk4; (refine Mm.get0 rtD H rfl (.tmp 3) rfl rfl rfl ?_); (try simp only [Act.put, setIfInBounds_toArray, set_cons_zero, set_cons_succ]); have tk5 := hidp trivial) | (clear tk5; (go_at_call 20; refine (ce.out _).mono ?_; rintro e _ ⟨rfl, hb⟩; replace H := hidp (H.out.call hb); clear ce; clear hb); (try simp only [Act.put, setIfInBounds_toArray, set_cons_zero, set_cons_succ]); have tk6 := hidp trivial) | (clear tk6; (refine Mm.ld1 naDK H rfl (.tmp 14) 0 (.int .u8 (k : Int)) rfl rfl rfl ?_); (try simp only [Act.put, setIfInBounds_toArray, set_cons_zero, set_cons_succ]); have tk7 := hidp trivial) | (clear tk7; (refine Mm.ld0 naDK H rfl (.tmp 19) 0 (.int .u8 (ke : Int)) rfl rfl rfl ?_); (try simp only [Act.put, setIfInBounds_toArray, set_cons_zero, set_cons_succ]); have tk8 := hidp trivial) | (clear tk8; (refine Mm.ld1 naS H rfl (.tmp 23) 1 _ rfl rfl rfl ?_); (try simp only [Act.put, setIfInBounds_toArray, set_cons_zero, set_cons_succ]); have tk9 := hidp trivial) | (clear tk9; (refine Mm.ld0 naS H rfl (.tmp 25) 1 _ rfl rfl rfl ?_); (try simp only [Act.put, setIfInBounds_toArray, set_cons_zero, set_cons_succ]); have tk10 := hidp trivial) | (clear tk10; (refine Mm.ld1 naI H rfl (.tmp 29) 2 _ rfl rfl rfl ?_); (try simp only [Act.put, setIfInBounds_toArray, set_cons_zero, set_cons_succ]); have tk11 := hidp trivial) | (clear tk11; (refine Mm.ld0 naI H rfl (.tmp 31) 2 _ rfl rfl rfl ?_); (try simp only [Act.put, setIfInBounds_toArray, set_cons_zero, set_cons_succ]); have tk12 := hidp trivial) | (clear tk12; (refine Mm.ld1 naI H rfl (.tmp 36) 3 _ rfl rfl rfl ?_); (try simp only [Act.put, setIfInBounds_toArray, set_cons_zero, set_cons_succ]); have tk13 := hidp trivial) | (clear tk13; (refine Mm.ld0 naI H rfl (.tmp 38) 3 _ rfl rfl rfl ?_); (try simp only [Act.put, setIfInBounds_toArray, set_cons_zero, set_cons_succ]); have tk14 := hidp trivial))
                try clear tk14
                go_ret
                exact ⟨by rw [HF.out]; rfl, H.out.below⟩
            · have z1 : (ep == ee) = false := by rw [beq_eq_false_iff_ne]; exact q1
              have HF := hidp (show fits (⟨k, r, ep, ix, hu, nx, sg⟩ : De) (⟨ke, re, ee, ie, he, ne, ge⟩ : De) = false from HNN.out fun g => q1 g.2.1)
              clear q0 q1
              go_enter Tryz.func22, Tryz.ntmps22
              have tk0 := hidp trivial
              go_wp2_with (first | (clear tk0; (refine Mm.box 24 H rfl (.tmp 0) rfl [.int .u8 (k : Int), .string r, .int .i64 ep, .int .i64 ix, .int .i64 hu, .int .i64 nx, .string sg] rfl ?_; clear H; intro b2 _ H nw; have hb := nw.below; clear hb nw); (try simp only [Act.put, setIfInBounds_toArray, set_cons_zero, set_cons_succ]); have tk1 := hidp trivial) | (clear tk1; (refine Mm.box 24 H rfl (.tmp 1) rfl [.int .u8 (ke : Int), .string re, .int .i64 ee, .int .i64 ie, .int .i64 he, .int .i64 ne, .string ge] rfl ?_; clear H; intro b3 _ H nw; have hb := nw.below; clear hb nw); (try simp only [Act.put, setIfInBounds_toArray, set_cons_zero, set_cons_succ]); have tk2 := hidp trivial) | (clear tk2; (refine Mm.get1 rtD H rfl (.tmp 2) rfl rfl rfl ?_); (try simp only [Act.put, setIfInBounds_toArray, set_cons_zero, set_cons_succ]); have tk3 := hidp trivial) | (clear tk3; (go_at_call 20; refine (cd.out _).mono ?_; rintro e _ ⟨rfl, hb⟩; replace H := hidp (H.out.call hb); clear cd; clear hb); (try simp only [Act.put, setIfInBounds_toArray, set_cons_zero, set_cons_succ]); have tk4 := hidp trivial) | (clear tk4; (refine Mm.get0 rtD H rfl (.tmp 3) rfl rfl rfl ?_); (try simp only [Act.put, setIfInBounds_toArray, set_cons_zero, set_cons_succ]); have tk5 := hidp trivial) | (clear tk5; (go_at_call 20; refine (ce.out _).mono ?_; rintro e _ ⟨rfl, hb⟩; replace H := hidp (H.out.call hb); clear ce; clear hb); (try simp only [Act.put, setIfInBounds_toArray, set_cons_zero, set_cons_succ]); have tk6 := hidp trivial) | (clear tk6; (refine Mm.ld1 naDK H rfl (.tmp 14) 0 (.int .u8 (k : Int)) rfl rfl rfl ?_); (try simp only [Act.put, setIfInBounds_toArray, set_cons_zero, set_cons_succ]); have tk7 := hidp trivial) | (clear tk7; (refine Mm.ld0 naDK H rfl (.tmp 19) 0 (.int .u8 (ke : Int)) rfl rfl rfl ?_); (try simp only [Act.put, setIfInBounds_toArray, set_cons_zero, set_cons_succ]); have tk8 := hidp trivial) | (clear tk8; (refine Mm.ld1 naS H rfl (.tmp 23) 1 _ rfl rfl rfl ?_); (try simp only [Act.put, setIfInBounds_toArray, set_cons_zero, set_cons_succ]); have tk9 := hidp trivial) | (clear tk9; (refine Mm.ld0 naS H rfl (.tmp 25) 1 _ rfl rfl rfl ?_); (try simp only [Act.put, setIfInBounds_toArray, set_cons_zero, set_cons_succ]); have tk10 := hidp trivial) | (clear tk10; (refine Mm.ld1 naI H rfl (.tmp 29) 2 _ rfl rfl rfl ?_); (try simp only [Act.put, setIfInBounds_toArray, set_cons_zero, set_cons_succ]); have tk11 := hidp trivial) | (clear tk11; (refine Mm.ld0 naI H rfl (.tmp 31) 2 _ rfl rfl rfl ?_); (try simp only [Act.put, setIfInBounds_toArray, set_cons_zero, set_cons_succ]); have tk12 := hidp trivial))
              try clear tk12
              go_ret
              exact ⟨by rw [HF.out]; rfl, H.out.below⟩
          · have z0 : (r.toList == re.toList) = false := by rw [beq_eq_false_iff_ne]; exact fun g => q0 (toL_inj g)
            have HF := hidp (show fits (⟨k, r, ep, ix, hu, nx, sg⟩ : De) (⟨ke, re, ee, ie, he, ne, ge⟩ : De) = false from HNN.out fun g => q0 g.1)
            clear q0
            go_enter Tryz.func22, Tryz.ntmps22
            have tk0 := hidp trivial
            go_wp2_with (first | (clear tk0; (refine Mm.box 24 H rfl (.tmp 0) rfl [.int .u8 (k : Int), .string r, .int .i64 ep, .int .i64 ix, .int .i64 hu, .int .i64 nx, .string sg] rfl ?_; clear H; intro b2 _ H nw; have hb := nw.below; clear hb nw); (try simp only [Act.put, setIfInBounds_toArray, set_cons_zero, set_cons_succ]); have tk1 := hidp trivial) | (clear tk1; (refine Mm.box 24 H rfl (.tmp 1) rfl [.int .u8 (ke : Int), .string re, .int .i64 ee, .int .i64 ie, .int .i64 he, .int .i64 ne, .string ge] rfl ?_; clear H; intro b3 _ H nw; have hb := nw.below; clear hb nw); (try simp only [Act.put, setIfInBounds_toArray, set_cons_zero, set_cons_succ]); have tk2 := hidp trivial) | (clear tk2; (refine Mm.get1 rtD H rfl (.tmp 2) rfl rfl rfl ?_); (try simp only [Act.put, setIfInBounds_toArray, set_cons_zero, set_cons_succ]); have tk3 := hidp trivial) | (clear tk3; (go_at_call 20; refine (cd.out _).mono ?_; rintro e _ ⟨rfl, hb⟩; replace H := hidp (H.out.call hb); clear cd; clear hb); (try simp only [Act.put, setIfInBounds_toArray, set_cons_zero, set_cons_succ]); have tk4 := hidp trivial) | (clear tk4; (refine Mm.get0 rtD H rfl (.tmp 3) rfl rfl rfl ?_); (try simp only [Act.put, setIfInBounds_toArray, set_cons_zero, set_cons_succ]); have tk5 := hidp trivial) | (clear tk5; (go_at_call 20; refine (ce.out _).mono ?_; rintro e _ ⟨rfl, hb⟩; replace H := hidp (H.out.call hb); clear ce; clear hb); (try simp only [Act.put, setIfInBounds_toArray, set_cons_zero, set_cons_succ]); have tk6 := hidp trivial) | (clear tk6; (refine Mm.ld1 naDK H rfl (.tmp 14) 0 (.int .u8 (k : Int)) rfl rfl rfl ?_); (try simp only [Act.put, setIfInBounds_toArray, set_cons_zero, set_cons_succ]); have tk7 := hidp trivial) | (clear tk7; (refine Mm.ld0 naDK H rfl (.tmp 19) 0 (.int .u8 (ke : Int)) rfl rfl rfl ?_); (try simp only [Act.put, setIfInBounds_toArray, set_cons_zero, set_cons_succ]); have tk8 := hidp trivial) | (clear tk8; (refine Mm.ld1 naS H rfl (.tmp 23) 1 _ rfl rfl rfl ?_); (try simp only [Act.put, setIfInBounds_toArray, set_cons_zero, set_cons_succ]); have tk9 := hidp trivial) | (clear tk9; (refine Mm.ld0 naS H rfl (.tmp 25) 1 _ rfl rfl rfl ?_); (try simp only [Act.put, setIfInBounds_toArray, set_cons_zero, set_cons_succ]); have tk10 := hidp trivial))
            try clear tk10
            go_ret
            exact ⟨by rw [HF.out]; rfl, H.out.below⟩
        · have d2 : ((ke : Int) != 2) = true := by simp; omega
          have HF := hidp (show fits (⟨k, r, ep, ix, hu, nx, sg⟩ : De) (⟨ke, re, ee, ie, he, ne, ge⟩ : De) = false from fits_kind fun g => hl g.2)
          clear h1 h2 hk hl
          go_enter Tryz.func22, Tryz.ntmps22
          have tk0 := hidp trivial
          go_wp2_with (first | (clear tk0; (refine Mm.box 24 H rfl (.tmp 0) rfl [.int .u8 (k : Int), .string r, .int .i64 ep, .int .i64 ix, .int .i64 hu, .int .i64 nx, .string sg] rfl ?_; clear H; intro b2 _ H nw; have hb := nw.below; clear hb nw); (try simp only [Act.put, setIfInBounds_toArray, set_cons_zero, set_cons_succ]); have tk1 := hidp trivial) | (clear tk1; (refine Mm.box 24 H rfl (.tmp 1) rfl [.int .u8 (ke : Int), .string re, .int .i64 ee, .int .i64 ie, .int .i64 he, .int .i64 ne, .string ge] rfl ?_; clear H; intro b3 _ H nw; have hb := nw.below; clear hb nw); (try simp only [Act.put, setIfInBounds_toArray, set_cons_zero, set_cons_succ]); have tk2 := hidp trivial) | (clear tk2; (refine Mm.get1 rtD H rfl (.tmp 2) rfl rfl rfl ?_); (try simp only [Act.put, setIfInBounds_toArray, set_cons_zero, set_cons_succ]); have tk3 := hidp trivial) | (clear tk3; (go_at_call 20; refine (cd.out _).mono ?_; rintro e _ ⟨rfl, hb⟩; replace H := hidp (H.out.call hb); clear cd; clear hb); (try simp only [Act.put, setIfInBounds_toArray, set_cons_zero, set_cons_succ]); have tk4 := hidp trivial) | (clear tk4; (refine Mm.get0 rtD H rfl (.tmp 3) rfl rfl rfl ?_); (try simp only [Act.put, setIfInBounds_toArray, set_cons_zero, set_cons_succ]); have tk5 := hidp trivial) | (clear tk5; (go_at_call 20; refine (ce.out _).mono ?_; rintro e _ ⟨rfl, hb⟩; replace H := hidp (H.out.call hb); clear ce; clear hb); (try simp only [Act.put, setIfInBounds_toArray, set_cons_zero, set_cons_succ]); have tk6 := hidp trivial) | (clear tk6; (refine Mm.ld1 naDK H rfl (.tmp 14) 0 (.int .u8 (k : Int)) rfl rfl rfl ?_); (try simp only [Act.put, setIfInBounds_toArray, set_cons_zero, set_cons_succ]); have tk7 := hidp trivial) | (clear tk7; (refine Mm.ld0 naDK H rfl (.tmp 19) 0 (.int .u8 (ke : Int)) rfl rfl rfl ?_); (try simp only [Act.put, setIfInBounds_toArray, set_cons_zero, set_cons_succ]); have tk8 := hidp trivial))
          try clear tk8
          go_ret
          exact ⟨by rw [HF.out]; rfl, H.out.below⟩
      · have d1 : ((k : Int) != 1) = true := by simp; omega
        have HF := hidp (show fits (⟨k, r, ep, ix, hu, nx, sg⟩ : De) (⟨ke, re, ee, ie, he, ne, ge⟩ : De) = false from fits_kind fun g => hk g.1)
        clear h1 h2 hk
        go_enter Tryz.func22, Tryz.ntmps22
        have tk0 := hidp trivial
        go_wp2_with (first | (clear tk0; (refine Mm.box 24 H rfl (.tmp 0) rfl [.int .u8 (k : Int), .string r, .int .i64 ep, .int .i64 ix, .int .i64 hu, .int .i64 nx, .string sg] rfl ?_; clear H; intro b2 _ H nw; have hb := nw.below; clear hb nw); (try simp only [Act.put, setIfInBounds_toArray, set_cons_zero, set_cons_succ]); have tk1 := hidp trivial) | (clear tk1; (refine Mm.box 24 H rfl (.tmp 1) rfl [.int .u8 (ke : Int), .string re, .int .i64 ee, .int .i64 ie, .int .i64 he, .int .i64 ne, .string ge] rfl ?_; clear H; intro b3 _ H nw; have hb := nw.below; clear hb nw); (try simp only [Act.put, setIfInBounds_toArray, set_cons_zero, set_cons_succ]); have tk2 := hidp trivial) | (clear tk2; (refine Mm.get1 rtD H rfl (.tmp 2) rfl rfl rfl ?_); (try simp only [Act.put, setIfInBounds_toArray, set_cons_zero, set_cons_succ]); have tk3 := hidp trivial) | (clear tk3; (go_at_call 20; refine (cd.out _).mono ?_; rintro e _ ⟨rfl, hb⟩; replace H := hidp (H.out.call hb); clear cd; clear hb); (try simp only [Act.put, setIfInBounds_toArray, set_cons_zero, set_cons_succ]); have tk4 := hidp trivial) | (clear tk4; (refine Mm.get0 rtD H rfl (.tmp 3) rfl rfl rfl ?_); (try simp only [Act.put, setIfInBounds_toArray, set_cons_zero, set_cons_succ]); have tk5 := hidp trivial) | (clear tk5; (go_at_call 20; refine (ce.out _).mono ?_; rintro e _ ⟨rfl, hb⟩; replace H := hidp (H.out.call hb); clear ce; clear hb); (try simp only [Act.put, setIfInBounds_toArray, set_cons_zero, set_cons_succ]); have tk6 := hidp trivial) | (clear tk6; (refine Mm.ld1 naDK H rfl (.tmp 14) 0 (.int .u8 (k : Int)) rfl rfl rfl ?_); (try simp only [Act.put, setIfInBounds_toArray, set_cons_zero, set_cons_succ]); have tk7 := hidp trivial))
        try clear tk7
        go_ret
        exact ⟨by rw [HF.out]; rfl, H.out.below⟩
end Go.Proofs.YtldokjbfnhgamaaGreatDoor.Ho
