import Derived.Test.YtbgooppmhgaicaaGreatDoorEU2
import Derived.Test.YtbgooppmhgaicaaGreatDoorEU5
set_option linter.unusedVariables false
set_option linter.unusedSimpArgs false
set_option maxHeartbeats 64000000
set_option maxRecDepth 100000
namespace Go.Proofs.YtbgooppmhgaicaaGreatDoor.Hd
open Go.RowKit
open List (getElem_toArray getElem_cons_zero getElem_cons_succ setIfInBounds_toArray set_cons_zero set_cons_succ)
open En (cnt num4 num4_in z32e naS naI rtH u8_one hsV hsE hsV_len ohash_any s_cnv wpL_slc or4 or4_zero or4_any four s_bld wpL_bsE4)
open En (eOk eE eE_yes eE_no esmV esum_any s_bld)
theorem rjtext_any (w : World) (x : Hd) (hx : x.ok) : Calls Tryz.prog 22 #[.agg x.row.toArray] w fun e w' => e = .returned (.tuple #[.string (jT x), .int .i64 (jE x)]) ∧ Below w.heap.size w w' := by
 have H := hidp (Mm.M.nil w)
 have HP := hidp hx.p
 have cc := hidp (fun W => rjcheck_any W x hx)
 clear hx
 cases hok : jOk x with
 | false =>
   rw [jE_no hok] at cc ⊢
   rw [jT_no hok]
   clear hok
   go_enter Tryz.func22, Tryz.ntmps22
   have tk0 := hT
   go_wp2_with (first | (clear tk0; (refine Mm.box 53 H rfl (.tmp 0) rfl x.row rfl ?_; clear H; intro b1 _ H nw; clear nw); (try simp only [Act.put, aQ]); have tk1 := hT) | (clear tk1; (refine Mm.get0 rtHd H rfl (.tmp 1) rfl rfl (Hd.len HP.out) ?_); (try simp only [Act.put, aQ]); have tk2 := hT) | (clear tk2; (go_at_call 32; refine (cc.out _).mono ?_; rintro e _ ⟨rfl, hb⟩; replace H := hidp (H.out.call hb); clear cc; clear hb); (try simp only [Act.put, aQ]); have tk3 := hT))
   try clear tk3
   go_ret2
   exact ⟨rfl, H.out.below⟩
 | true =>
   rw [jE_yes hok] at cc ⊢
   obtain ⟨-, h2, h3, -⟩ := jOk_parts hok
   obtain ⟨ne, hne⟩ := Int.eq_ofNat_of_zero_le h2.1
   obtain ⟨ni, hni⟩ := Int.eq_ofNat_of_zero_le h3.1
   have hlok := jL_ok hok HP.out
   have hT : jT x = listS (jL x) ∧ (0 : Int) = listE (jL x) := by rw [jT_yes hok, listS_yes hlok, listE_yes hlok]; exact ⟨rfl, rfl⟩
   have hL : jL x = [wHead, x.r, mkS (encN ne), mkS (encN ni), mkS x.p] := by unfold jL; rw [hne, hni]; rfl
   have HE1 := hidp (show x.row[1]? = some (.int .i64 (ne : Int)) from by rw [Hd.get1, hne])
   have HI1 := hidp (show x.row[2]? = some (.int .i64 (ni : Int)) from by rw [Hd.get2, hni])
   have ce := hidp (fun W => refNum_any W ne (by omega))
   rw [numS_yes (by omega), numE_yes (by omega)] at ce
   have ci := hidp (fun W => refNum_any W ni (by omega))
   rw [numS_yes (by omega), numE_yes (by omega)] at ci
   have w1 : IntKind.u64.wrap (ne : Int) = (ne : Int) := by unfold IntKind.wrap; simp [IntKind.bits, IntKind.signed]; omega
   have w2 : IntKind.u64.wrap (ni : Int) = (ni : Int) := by unfold IntKind.wrap; simp [IntKind.bits, IntKind.signed]; omega
   rw [hL] at hlok hT
   have cl := hidp (fun W v (hat : StrsAt W v [wHead, x.r, mkS (encN ne), mkS (encN ni), mkS x.p]) => refList_any W v _ hat (by simp) (fun s hs => by have := hlok.2 s hs; omega))
   rw [← hT.1, ← hT.2] at cl
   obtain ⟨T, hTT⟩ : ∃ T, jT x = T := ⟨_, rfl⟩
   rw [hTT] at cl ⊢
   clear hok h2 h3 hne hni hlok hT hL hTT
   go_enter Tryz.func22, Tryz.ntmps22
   have tk0 := hT
   go_wp2_with (first | (clear tk0; (refine Mm.box 53 H rfl (.tmp 0) rfl x.row rfl ?_; clear H; intro b1 _ H nw; clear nw); (try simp only [Act.put, aQ]); have tk1 := hT) | (clear tk1; (refine Mm.get0 rtHd H rfl (.tmp 1) rfl rfl (Hd.len HP.out) ?_); (try simp only [Act.put, aQ]); have tk2 := hT) | (clear tk2; (go_at_call 32; refine (cc.out _).mono ?_; rintro e _ ⟨rfl, hb⟩; replace H := hidp (H.out.call hb); clear cc; clear hb); (try simp only [Act.put, aQ]); have tk3 := hT) | (clear tk3; (refine Mm.ld0 naI H rfl (.tmp 12) 1 (.int .i64 (ne : Int)) rfl rfl HE1.out ?_); (try simp only [Act.put, aQ]); have tk4 := hT) | (clear tk4; (go_at_call 55; refine (ce.out _).mono ?_; rintro e _ ⟨rfl, hb⟩; replace H := hidp (H.out.call hb); clear hb); (try simp only [Act.put, aQ]); have tk5 := hT) | (clear tk5; (refine Mm.ld0 naI H rfl (.tmp 19) 2 (.int .i64 (ni : Int)) rfl rfl HI1.out ?_); (try simp only [Act.put, aQ]); have tk6 := hT) | (clear tk6; (go_at_call 55; refine (ci.out _).mono ?_; rintro e _ ⟨rfl, hb⟩; replace H := hidp (H.out.call hb); clear hb); (try simp only [Act.put, aQ]); have tk7 := hT))
   try clear tk7
   refine Mm.region H (.take 0 (.take 1 (.take 2 (.take 3 (.take 4 (.take 5 (.take 6 (.one 7 (.one 8 (.take 9 (.take 10 (.take 11 (.take 12 .done))))))))))))) (by kernel_rfl) (by kernel_rfl) (by simp [Scr.depth]) (by kernel_rfl) ?_
   clear H
   intro _ H hb
   clear hb
   apply s_val
   case ho | hw => rfl
   case hv => intro w hw; go_simp; first | done | rfl
   simp only [Act.put, aP]
   refine Mm.sld0 naS (fun w h => h) rfl rfl (.tmp 25) 0 (.string x.r) rfl rfl (Hd.get0 _) ?_
   iterate 3
    simp only [Act.put, aP]
    apply s_val
    case ho | hw => rfl
    case hv => intro w hw; go_simp; first | done | rfl
   simp only [Act.put, aP]
   refine s_slc rfl rfl (.tmp 29) rfl b1 3 rfl ?_
   simp only [Act.put, aP]
   refine s_cnv rfl rfl (.tmp 30) rfl _ (mkS x.p) rfl (fun W hW => conv32 W b1 x HP.out hW.at0) ?_
   simp only [Act.put, aP]
   refine o_bsS5 H (fun W h => h) rfl rfl _ _ _ _ _ wHead x.r (mkS (encN ne)) (mkS (encN ni)) (mkS x.p) rfl rfl rfl rfl rfl rfl ?_
   clear H
   intro b9 _ H nw
   have hb := nw.below
   clear hb nw
   simp only [Act.put, aP]
   have hsl := (Sl.own_arr (B := 0) (row := strV [wHead, x.r, mkS (encN ne), mkS (encN ni), mkS x.p]) H.out.at0 (Nat.zero_le _) (by simp [strV])).strs
   refine Mm.o_callH (v := .tuple #[.string T, .int .i64 0]) H (fun W h => h.tail) rfl rfl 56 (#[.slice (some ⟨b9, 0, none⟩) 5 5]) (by go_simp; first | done | rfl) (cl.out _ _ hsl) ?_
   clear H
   intro _ H hb
   clear hsl cl
   clear hb
   iterate 4
    simp only [Act.put, aP]
    apply s_val
    case ho | hw => rfl
    case hv => intro w hw; go_simp; first | done | rfl
   simp only [Act.put, aP]
   refine NoPanic.normal ?_
   go_wp2
   go_ret2
   exact ⟨rfl, H.out.below⟩
end Go.Proofs.YtbgooppmhgaicaaGreatDoor.Hd
