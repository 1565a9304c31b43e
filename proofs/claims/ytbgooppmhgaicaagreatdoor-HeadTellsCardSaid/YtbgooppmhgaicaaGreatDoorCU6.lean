/-
  Joined: HdT.
-/
import Derived.Test.YtbgooppmhgaicaaGreatDoorCU2
import Derived.Test.YtbgooppmhgaicaaGreatDoorCU5
namespace Go.Proofs.YtbgooppmhgaicaaGreatDoor.Hd
set_option maxRecDepth 100000
set_option linter.unusedVariables false
set_option linter.unusedSimpArgs false
open Go.RowKit
open List (getElem_toArray getElem_cons_zero getElem_cons_succ setIfInBounds_toArray set_cons_zero set_cons_succ)
open En (cnt num4 num4_in z32e naS naI rtH u8_one hsV hsE hsV_len ohash_any s_cnv wpL_slc or4 or4_zero or4_any four s_bld wpL_bsE4)
open En (eOk eE eE_yes eE_no esmV esum_any rsum19_any s_bld)

set_option maxHeartbeats 16000000 in
theorem rjtext_any (w : World) (x : Hd) (hx : x.ok) : Calls Tryz.prog 22 #[.agg x.row.toArray] w fun e w' => e = .returned (.tuple #[.string (jT x), .int .i64 (jE x)]) ∧ Below w.heap.size w w' := by
  have H := hidp (Mm.M.nil w)
  have HP := hidp hx.p
  have cc := hidp (fun W => rjcheck_any W x hx)
  clear hx
  cases hok : jOk x with
  | false =>
    rw [jE_no hok] at cc ⊢
    rw [jT_no hok]
    clear hok
    go_enter Tryz.func22, Tryz.ntmps22
    have tk0 := hidp trivial
    go_wp2_with (first | (clear tk0; (refine Mm.box 53 H rfl (.tmp 0) rfl x.row rfl ?_; clear H; intro b1 _ H nw; have hb := nw.below; clear hb nw); (try simp only [Act.put, setIfInBounds_toArray, set_cons_zero, set_cons_succ]); have tk1 := hidp trivial) | (clear tk1; (refine Mm.get0 rtHd H rfl (.tmp 1) rfl rfl (Hd.len HP.out) ?_); (try simp only [Act.put, setIfInBounds_toArray, set_cons_zero, set_cons_succ]); have tk2 := hidp trivial) | (clear tk2; (go_at_call 32; refine (cc.out _).mono ?_; rintro e _ ⟨rfl, hb⟩; replace H := hidp (H.out.call hb); clear cc; clear hb); (try simp only [Act.put, setIfInBounds_toArray, set_cons_zero, set_cons_succ]); have tk3 := hidp trivial))
    try clear tk3
    go_ret2
    exact ⟨rfl, H.out.below⟩
  | true =>
    rw [jE_yes hok] at cc ⊢
    obtain ⟨-, h2, h3, -⟩ := jOk_parts hok
    obtain ⟨ne, hne⟩ := Int.eq_ofNat_of_zero_le h2.1
    obtain ⟨ni, hni⟩ := Int.eq_ofNat_of_zero_le h3.1
    have hlok := jL_ok hok HP.out
    have hT : jT x = listS (jL x) ∧ (0 : Int) = listE (jL x) := by rw [jT_yes hok, listS_yes hlok, listE_yes hlok]; exact ⟨rfl, rfl⟩
    have hL : jL x = [wHead, x.r, mkS (encN ne), mkS (encN ni), mkS x.p] := by unfold jL; rw [hne, hni]; rfl
    have HE1 := hidp (show x.row[1]? = some (.int .i64 (ne : Int)) from by rw [Hd.get1, hne])
    have HI1 := hidp (show x.row[2]? = some (.int .i64 (ni : Int)) from by rw [Hd.get2, hni])
    have ce := hidp (fun W => refNum_any W ne (by omega))
    rw [numS_yes (by omega), numE_yes (by omega)] at ce
    have ci := hidp (fun W => refNum_any W ni (by omega))
    rw [numS_yes (by omega), numE_yes (by omega)] at ci
    have w1 : IntKind.u64.wrap (ne : Int) = (ne : Int) := by unfold IntKind.wrap; simp [IntKind.bits, IntKind.signed]; omega
    have w2 : IntKind.u64.wrap (ni : Int) = (ni : Int) := by unfold IntKind.wrap; simp [IntKind.bits, IntKind.signed]; omega
    rw [hL] at hlok hT
    have cl := hidp (fun W v (hat : StrsAt W v [wHead, x.r, mkS (encN ne), mkS (encN ni), mkS x.p]) => refList_any W v _ hat (by simp) (fun s hs => by have := hlok.2 s hs; omega))
    rw [← hT.1, ← hT.2] at cl
    obtain ⟨T, hTT⟩ : ∃ T, jT x = T := ⟨_, rfl⟩
    rw [hTT] at cl ⊢
    clear hok h2 h3 hne hni hlok hT hL hTT
    go_enter Tryz.func22, Tryz.ntmps22
    have tk0 := hidp trivial
    go_wp2_with (first | (clear tk0; (refine Mm.box 53 H rfl (.tmp 0) rfl x.row rfl ?_; clear H; intro b1 _ H nw; have hb := nw.below; clear hb nw); (try simp only [Act.put, setIfInBounds_toArray, set_cons_zero, set_cons_succ]); have tk1 := hidp trivial) | (clear tk1; (refine Mm.get0 rtHd H rfl (.tmp 1) rfl rfl (Hd.len HP.out) ?_); (try simp only [Act.put, setIfInBounds_toArray, set_cons_zero, set_cons_succ]); have tk2 := hidp trivial) | (clear tk2; (go_at_call 32; refine (cc.out _).mono ?_; rintro e _ ⟨rfl, hb⟩; replace H := hidp (H.out.call hb); clear cc; clear hb); (try simp only [Act.put, setIfInBounds_toArray, set_cons_zero, set_cons_succ]); have tk3 := hidp trivial) | (clear tk3; (refine Mm.ld0 naI H rfl (.tmp 12) 1 (.int .i64 (ne : Int)) rfl rfl HE1.out ?_); (try simp only [Act.put, setIfInBounds_toArray, set_cons_zero, set_cons_succ]); have tk4 := hidp trivial) | (clear tk4; (go_at_call 55; refine (ce.out _).mono ?_; rintro e _ ⟨rfl, hb⟩; replace H := hidp (H.out.call hb); clear hb); (try simp only [Act.put, setIfInBounds_toArray, set_cons_zero, set_cons_succ]); have tk5 := hidp trivial) | (clear tk5; (refine Mm.ld0 naI H rfl (.tmp 19) 2 (.int .i64 (ni : Int)) rfl rfl HI1.out ?_); (try simp only [Act.put, setIfInBounds_toArray, set_cons_zero, set_cons_succ]); have tk6 := hidp trivial) | (clear tk6; (go_at_call 55; refine (ci.out _).mono ?_; rintro e _ ⟨rfl, hb⟩; replace H := hidp (H.out.call hb); clear hb); (try simp only [Act.put, setIfInBounds_toArray, set_cons_zero, set_cons_succ]); have tk7 := hidp trivial))
    try clear tk7
    refine Mm.region H (.take 0 (.take 1 (.take 2 (.take 3 (.take 4 (.take 5 (.take 6 (.one 7 (.one 8 (.take 9 (.take 10 (.take 11 (.take 12 .done))))))))))))) (by kernel_rfl) (by kernel_rfl) (by simp [Scr.depth]) (by kernel_rfl) ?_
    clear H
    intro _ H hb
    clear hb
    apply s_val
    case ho | hw => rfl
    case hv => intro w hw; go_simp; first | done | rfl
    simp only [Act.put, getElem_toArray, getElem_cons_zero, getElem_cons_succ, setIfInBounds_toArray, set_cons_zero, set_cons_succ]
    refine Mm.sld0 naS (fun w h => h) rfl rfl (.tmp 25) 0 (.string x.r) rfl rfl (Hd.get0 _) ?_
    simp only [Act.put, getElem_toArray, getElem_cons_zero, getElem_cons_succ, setIfInBounds_toArray, set_cons_zero, set_cons_succ]
    apply s_val
    case ho | hw => rfl
    case hv => intro w hw; go_simp; first | done | rfl
    simp only [Act.put, getElem_toArray, getElem_cons_zero, getElem_cons_succ, setIfInBounds_toArray, set_cons_zero, set_cons_succ]
    apply s_val
    case ho | hw => rfl
    case hv => intro w hw; go_simp; first | done | rfl
    simp only [Act.put, getElem_toArray, getElem_cons_zero, getElem_cons_succ, setIfInBounds_toArray, set_cons_zero, set_cons_succ]
    apply s_val
    case ho | hw => rfl
    case hv => intro w hw; go_simp; first | done | rfl
    simp only [Act.put, getElem_toArray, getElem_cons_zero, getElem_cons_succ, setIfInBounds_toArray, set_cons_zero, set_cons_succ]
    refine s_slc rfl rfl (.tmp 29) rfl b1 3 rfl ?_
    simp only [Act.put, getElem_toArray, getElem_cons_zero, getElem_cons_succ, setIfInBounds_toArray, set_cons_zero, set_cons_succ]
    refine s_cnv rfl rfl (.tmp 30) rfl _ (mkS x.p) rfl (fun W hW => conv32 W b1 x HP.out hW.at0) ?_
    simp only [Act.put, getElem_toArray, getElem_cons_zero, getElem_cons_succ, setIfInBounds_toArray, set_cons_zero, set_cons_succ]
    refine o_bsS5 H (fun W h => h) rfl rfl _ _ _ _ _ wHead x.r (mkS (encN ne)) (mkS (encN ni)) (mkS x.p) rfl rfl rfl rfl rfl rfl ?_
    clear H
    intro b9 _ H nw
    have hb := nw.below
    clear hb nw
    simp only [Act.put, getElem_toArray, getElem_cons_zero, getElem_cons_succ, setIfInBounds_toArray, set_cons_zero, set_cons_succ]
    have hsl := (Sl.own_arr (B := 0) (row := strV [wHead, x.r, mkS (encN ne), mkS (encN ni), mkS x.p]) H.out.at0 (Nat.zero_le _) (by simp [strV])).strs
    refine Mm.o_callH (v := .tuple #[.string T, .int .i64 0]) H (fun W h => h.tail) rfl rfl 56 (#[.slice (some ⟨b9, 0, none⟩) 5 5]) (by go_simp; first | done | rfl) (cl.out _ _ hsl) ?_
    clear H
    intro _ H hb
    clear hsl cl
    clear hb
    simp only [Act.put, getElem_toArray, getElem_cons_zero, getElem_cons_succ, setIfInBounds_toArray, set_cons_zero, set_cons_succ]
    apply s_val
    case ho | hw => rfl
    case hv => intro w hw; go_simp; first | done | rfl
    simp only [Act.put, getElem_toArray, getElem_cons_zero, getElem_cons_succ, setIfInBounds_toArray, set_cons_zero, set_cons_succ]
    apply s_val
    case ho | hw => rfl
    case hv => intro w hw; go_simp; first | done | rfl
    simp only [Act.put, getElem_toArray, getElem_cons_zero, getElem_cons_succ, setIfInBounds_toArray, set_cons_zero, set_cons_succ]
    apply s_val
    case ho | hw => rfl
    case hv => intro w hw; go_simp; first | done | rfl
    simp only [Act.put, getElem_toArray, getElem_cons_zero, getElem_cons_succ, setIfInBounds_toArray, set_cons_zero, set_cons_succ]
    apply s_val
    case ho | hw => rfl
    case hv => intro w hw; go_simp; first | done | rfl
    simp only [Act.put, getElem_toArray, getElem_cons_zero, getElem_cons_succ, setIfInBounds_toArray, set_cons_zero, set_cons_succ]
    refine NoPanic.normal ?_
    go_wp2
    go_ret2
    exact ⟨rfl, H.out.below⟩

set_option maxHeartbeats 8000000 in
theorem rjbytes_any (w : World) (x : Hd) (hx : x.ok) : Calls Tryz.prog 24 #[.agg x.row.toArray] w fun e w' => e = .returned (.tuple #[.string (jB x), .int .i64 (jBE x)]) ∧ Below w.heap.size w w' := by
  have H := hidp (Mm.M.nil w)
  have HP := hidp hx.p
  have ct := hidp (fun W => rjtext_any W x hx)
  have hts := jT_size x hx.p
  have hgs := hx.g
  clear hx
  cases hok : jOk x with
  | false =>
    rw [jE_no hok] at ct
    rw [jB_no hok, jBE_no hok]
    obtain ⟨T, hT⟩ : ∃ T, jT x = T := ⟨_, rfl⟩
    rw [hT] at ct
    clear hok hT hts hgs
    go_enter Tryz.func24, Tryz.ntmps24
    have tk0 := hidp trivial
    go_wp2_with (first | (clear tk0; (refine Mm.box 53 H rfl (.tmp 0) rfl x.row rfl ?_; clear H; intro b1 _ H nw; have hb := nw.below; clear hb nw); (try simp only [Act.put, setIfInBounds_toArray, set_cons_zero, set_cons_succ]); have tk1 := hidp trivial) | (clear tk1; (refine Mm.get0 rtHd H rfl (.tmp 1) rfl rfl (Hd.len HP.out) ?_); (try simp only [Act.put, setIfInBounds_toArray, set_cons_zero, set_cons_succ]); have tk2 := hidp trivial) | (clear tk2; (go_at_call 22; refine (ct.out _).mono ?_; rintro e _ ⟨rfl, hb⟩; replace H := hidp (H.out.call hb); clear ct; clear hb); (try simp only [Act.put, setIfInBounds_toArray, set_cons_zero, set_cons_succ]); have tk3 := hidp trivial))
    try clear tk3
    go_ret2
    exact ⟨rfl, H.out.below⟩
  | true =>
    rw [jE_yes hok] at ct
    rw [jB_yes hok, jBE_yes hok]
    obtain ⟨T, hT⟩ : ∃ T, jT x = T := ⟨_, rfl⟩
    rw [hT] at ct hts ⊢
    have cl := hidp (fun W v (hat : StrsAt W v [T, x.g]) => refList_any W v [T, x.g] hat (by simp) (fun s hs => by
      simp only [List.mem_cons, List.not_mem_nil, or_false] at hs
      rcases hs with rfl | rfl <;> omega))
    clear hok hT hts hgs
    go_enter Tryz.func24, Tryz.ntmps24
    have tk0 := hidp trivial
    go_wp2_with (first | (clear tk0; (refine Mm.box 53 H rfl (.tmp 0) rfl x.row rfl ?_; clear H; intro b1 _ H nw; have hb := nw.below; clear hb nw); (try simp only [Act.put, setIfInBounds_toArray, set_cons_zero, set_cons_succ]); have tk1 := hidp trivial) | (clear tk1; (refine Mm.get0 rtHd H rfl (.tmp 1) rfl rfl (Hd.len HP.out) ?_); (try simp only [Act.put, setIfInBounds_toArray, set_cons_zero, set_cons_succ]); have tk2 := hidp trivial) | (clear tk2; (go_at_call 22; refine (ct.out _).mono ?_; rintro e _ ⟨rfl, hb⟩; replace H := hidp (H.out.call hb); clear ct; clear hb); (try simp only [Act.put, setIfInBounds_toArray, set_cons_zero, set_cons_succ]); have tk3 := hidp trivial) | (clear tk3; (refine Mm.ld0 naS H rfl (.tmp 15) 35 (.string x.g) rfl rfl (Hd.get35 HP.out) ?_); (try simp only [Act.put, setIfInBounds_toArray, set_cons_zero, set_cons_succ]); have tk4 := hidp trivial) | (clear tk4; (refine Sl.wpL_bsS2 H rfl (.tmp 14) (.tmp 16) T x.g rfl rfl rfl ?_; clear H; intro b6 _ H nw; clear nw); (try simp only [Act.put, setIfInBounds_toArray, set_cons_zero, set_cons_succ]); have tk5 := hidp trivial) | (clear tk5; (go_at_call 56; refine (cl.out _ _ (Sl.own_arr (B := 0) (row := strV [T, x.g]) H.out.at0 (Nat.zero_le _) (by simp [strV])).strs).mono ?_; rintro e _ ⟨rfl, hb⟩; replace H := hidp (H.out.call hb); clear cl; clear hb); (try simp only [Act.put, setIfInBounds_toArray, set_cons_zero, set_cons_succ]); have tk6 := hidp trivial))
    try clear tk6
    go_ret2
    exact ⟨rfl, H.out.below⟩

set_option maxHeartbeats 16000000 in
theorem rjof_any (w : World) (x : En.En) (hx : x.ok) : Calls Tryz.prog 30 #[.agg x.row.toArray] w fun e w' => e = .returned (.tuple #[.agg (jOf x).row.toArray, .int .i64 (eE x)]) ∧ Below w.heap.size w w' := by
  have H := hidp (Mm.M.nil w)
  have HP := hidp hx.p
  have HZ := hidp (show x.r.size ≤ 281474976710656 from by have := hx.r; omega)
  have cs := hidp (fun W  => rsum19_any W x hx)
  skip
  obtain ⟨U, hU⟩ : ∃ U, esmV x = U := ⟨_, rfl⟩
  have HUU := hidp (show U.length = 32 from by rw [← hU]; exact esm_len x)
  have HU := hidp (show (u8s U).length = 32 from by rw [u8s_length]; exact HUU.out)
  rw [hU] at cs
  clear hx
  cases hok : eOk x with
  | false =>
    have HV := hidp (show jOf x = zHd from by unfold jOf; rw [hok]; rfl)
    rw [eE_no hok] at cs ⊢
    clear hok hU
    go_enter Tryz.func30, Tryz.ntmps30
    have tk0 := hidp trivial
    go_wp2_with (first | (clear tk0; (refine Mm.box 27 H rfl (.tmp 0) rfl x.row rfl ?_; clear H; intro b1 _ H nw; have hb := nw.below; clear hb nw); (try simp only [Act.put, setIfInBounds_toArray, set_cons_zero, set_cons_succ]); have tk1 := hidp trivial) | (clear tk1; (refine Mm.new rtHd H (some 2) rfl rfl rfl ?_; clear H; intro b2 _ H nw; have hb := nw.below; clear hb nw); (try simp only [Act.put, setIfInBounds_toArray, set_cons_zero, set_cons_succ]); have tk2 := hidp trivial) | (clear tk2; (refine Mm.get1 En.rtE H rfl (.tmp 1) rfl rfl (En.En.len HP.out) ?_); (try simp only [Act.put, setIfInBounds_toArray, set_cons_zero, set_cons_succ]); have tk3 := hidp trivial) | (clear tk3; (go_at_call 71; refine (cs.out _).mono ?_; rintro e _ ⟨rfl, hb⟩; replace H := hidp (H.out.call hb); clear cs; clear hb); (try simp only [Act.put, setIfInBounds_toArray, set_cons_zero, set_cons_succ]); have tk4 := hidp trivial) | (clear tk4; (refine Mm.new rtH H (some 4) rfl rfl rfl ?_; clear H; intro b4 _ H nw; have hb := nw.below; clear hb nw); (try simp only [Act.put, setIfInBounds_toArray, set_cons_zero, set_cons_succ]); have tk5 := hidp trivial) | (clear tk5; (refine Mm.put0 rtH H rfl (.tmp 4) (.tmp 9) (u8s U) rfl rfl rfl HU.out (u8_one _) rfl ?_; intro _ H2 st; clear st H; have H := H2; clear H2); (try simp only [Act.put, setIfInBounds_toArray, set_cons_zero, set_cons_succ]); have tk6 := hidp trivial) | (clear tk6; (refine Rt.wpL_build rfl 53 _ rfl zHd.row (by kernel_rfl) ?_); (try simp only [Act.put, setIfInBounds_toArray, set_cons_zero, set_cons_succ]); have tk7 := hidp trivial) | (clear tk7; (refine Mm.put1 rtHd H rfl (.tmp 2) (.tmp 13) zHd.row rfl rfl rfl (Hd.len (rfl : zHd.p.length = 32)) (Hd.one zHd) (Hd.len (rfl : zHd.p.length = 32)) ?_; intro _ H2 st; clear st H; have H := H2; clear H2); (try simp only [Act.put, setIfInBounds_toArray, set_cons_zero, set_cons_succ]); have tk8 := hidp trivial))
    try clear tk8
    refine bodyPost_ret (Mm.ret_rowv rtHd Tryz.results30 _ b2 _ _ rfl rfl H.out.at1 (Hd.len (rfl : zHd.p.length = 32))) rfl ⟨by rw [HV.out]; first | done | rfl, H.out.below⟩
  | true =>
    obtain ⟨Y, hY⟩ : ∃ Y, jOf x = Y := ⟨_, rfl⟩
    have HV := hidp hY
    have HYE := hidp (show (⟨x.r, x.e, x.i, U, ⟨#[]⟩⟩ : Hd) = Y from by rw [← hY, ← hU]; unfold jOf; rw [if_pos hok])
    have HY := hidp (show Y.p.length = 32 from by rw [← HYE.out]; exact HUU.out)
    rw [eE_yes hok] at cs ⊢
    clear hok hU hY
    go_enter Tryz.func30, Tryz.ntmps30
    have tk0 := hidp trivial
    go_wp2_with (first | (clear tk0; (refine Mm.box 27 H rfl (.tmp 0) rfl x.row rfl ?_; clear H; intro b1 _ H nw; have hb := nw.below; clear hb nw); (try simp only [Act.put, setIfInBounds_toArray, set_cons_zero, set_cons_succ]); have tk1 := hidp trivial) | (clear tk1; (refine Mm.new rtHd H (some 2) rfl rfl rfl ?_; clear H; intro b2 _ H nw; have hb := nw.below; clear hb nw); (try simp only [Act.put, setIfInBounds_toArray, set_cons_zero, set_cons_succ]); have tk2 := hidp trivial) | (clear tk2; (refine Mm.get1 En.rtE H rfl (.tmp 1) rfl rfl (En.En.len HP.out) ?_); (try simp only [Act.put, setIfInBounds_toArray, set_cons_zero, set_cons_succ]); have tk3 := hidp trivial) | (clear tk3; (go_at_call 71; refine (cs.out _).mono ?_; rintro e _ ⟨rfl, hb⟩; replace H := hidp (H.out.call hb); clear cs; clear hb); (try simp only [Act.put, setIfInBounds_toArray, set_cons_zero, set_cons_succ]); have tk4 := hidp trivial) | (clear tk4; (refine Mm.new rtH H (some 4) rfl rfl rfl ?_; clear H; intro b4 _ H nw; have hb := nw.below; clear hb nw); (try simp only [Act.put, setIfInBounds_toArray, set_cons_zero, set_cons_succ]); have tk5 := hidp trivial) | (clear tk5; (refine Mm.put0 rtH H rfl (.tmp 4) (.tmp 9) (u8s U) rfl rfl rfl HU.out (u8_one _) rfl ?_; intro _ H2 st; clear st H; have H := H2; clear H2); (try simp only [Act.put, setIfInBounds_toArray, set_cons_zero, set_cons_succ]); have tk6 := hidp trivial) | (clear tk6; (refine Mm.ld2 naS H rfl (.tmp 15) 0 (.string x.r) rfl rfl (En.En.get0 _) ?_); (try simp only [Act.put, setIfInBounds_toArray, set_cons_zero, set_cons_succ]); have tk7 := hidp trivial) | (clear tk7; (refine Mm.ld2 naI H rfl (.tmp 17) 1 (.int .i64 x.e) rfl rfl (En.En.get1 _) ?_); (try simp only [Act.put, setIfInBounds_toArray, set_cons_zero, set_cons_succ]); have tk8 := hidp trivial) | (clear tk8; (refine Mm.ld2 naI H rfl (.tmp 19) 2 (.int .i64 x.i) rfl rfl (En.En.get2 _) ?_); (try simp only [Act.put, setIfInBounds_toArray, set_cons_zero, set_cons_succ]); have tk9 := hidp trivial) | (clear tk9; (refine Mm.get0 rtH H rfl (.tmp 4) rfl rfl HU.out ?_); (try simp only [Act.put, setIfInBounds_toArray, set_cons_zero, set_cons_succ]); have tk10 := hidp trivial) | (clear tk10; (refine Rt.wpL_build rfl 53 _ rfl Y.row (by rw [← HYE.out]; exact Eq.trans (by kernel_rfl) (built_hd x.r x.e x.i U HUU.out)) ?_); (try simp only [Act.put, setIfInBounds_toArray, set_cons_zero, set_cons_succ]); have tk11 := hidp trivial) | (clear tk11; (refine Mm.put1 rtHd H rfl (.tmp 2) (.tmp 22) Y.row rfl rfl rfl (Hd.len HY.out) (Hd.one Y) (Hd.len (rfl : zHd.p.length = 32)) ?_; intro _ H2 st; clear st H; have H := H2; clear H2); (try simp only [Act.put, setIfInBounds_toArray, set_cons_zero, set_cons_succ]); have tk12 := hidp trivial))
    try clear tk12
    refine bodyPost_ret (Mm.ret_rowv rtHd Tryz.results30 _ b2 _ _ rfl rfl H.out.at1 (Hd.len HY.out)) rfl ⟨by rw [HV.out]; first | done | rfl, H.out.below⟩
end Go.Proofs.YtbgooppmhgaicaaGreatDoor.Hd
