import Derived.Test.YtbgooppmhgaicaaGreatDoorDW
import Derived.Test.YtbgooppmhgaicaaGreatDoorDC2
set_option linter.unusedVariables false
set_option linter.unusedSimpArgs false
set_option maxHeartbeats 64000000
namespace Go.Proofs.YtbgooppmhgaicaaGreatDoor.En
set_option maxRecDepth 100000
open Go.RowKit
open List (getElem_toArray getElem_cons_zero getElem_cons_succ setIfInBounds_toArray set_cons_zero set_cons_succ)
open Ho (inE inV in_zero in_not al_sz)
theorem rcheck_any (w : World) (x : En) (hx : x.ok) : Calls Tryz.prog 54 #[.agg x.row.toArray] w fun e w' => e = .returned (.int .i64 (eE x)) ∧ Below w.heap.size w w' := by
 have H := hidp (Mm.M.nil w)
 have HP := hidp hx.p
 have cr := hidp (fun W => rroom_any W x.r (by have := hx.r; omega))
 clear hx
 have HOK := hidp (show eOk x = ((who 2 x.r).isSome && cnt x.e && cnt x.i && decide (x.v.size ≤ 8192) && decide (x.g.size ≤ 8192)) from rfl)
 cases hw : who 2 x.r with
 | none =>
   have HF := hidp (show eE x = 2 from eE_of (by rw [HOK.out, hw]; simp))
   rw [hw] at cr; unfold whoV at cr
   clear hw
   go_enter Tryz.func54, Tryz.ntmps54
   have tk0 := hidp trivial
   go_wp2_with (first | (clear tk0; (refine Mm.box 27 H rfl (.tmp 0) rfl x.row rfl ?_; clear H; intro b1 _ H nw; have hb := nw.below; clear hb nw); (try simp only [Act.put, aQ]); have tk1 := hidp trivial) | (clear tk1; (refine Mm.ld0 naS H rfl (.tmp 6) 0 (.string x.r) rfl rfl (En.get0 _) ?_); (try simp only [Act.put, aQ]); have tk2 := hidp trivial) | (clear tk2; (go_at_call 73; refine (cr.out _).mono ?_; rintro e _ ⟨rfl, hb⟩; replace H := hidp (H.out.call hb); clear hb); (try simp only [Act.put, aQ]); have tk3 := hidp trivial))
   try clear tk3
   go_ret
   exact ⟨by rw [HF.out]; first | done | rfl, H.out.below⟩
 | some nn =>
   rw [hw] at cr; unfold whoV at cr
   by_cases a1 : x.e < 0
   · have HF := hidp (show eE x = 2 from eE_of (by rw [HOK.out, show cnt x.e = false from decide_eq_false (by omega)]; simp))
     have e1 : decide (x.e < 0) = true := by simpa using a1
     clear hw
     go_enter Tryz.func54, Tryz.ntmps54
     have tk0 := hidp trivial
     go_wp2_with (first | (clear tk0; (refine Mm.box 27 H rfl (.tmp 0) rfl x.row rfl ?_; clear H; intro b1 _ H nw; have hb := nw.below; clear hb nw); (try simp only [Act.put, aQ]); have tk1 := hidp trivial) | (clear tk1; (refine Mm.ld0 naS H rfl (.tmp 6) 0 (.string x.r) rfl rfl (En.get0 _) ?_); (try simp only [Act.put, aQ]); have tk2 := hidp trivial) | (clear tk2; (go_at_call 73; refine (cr.out _).mono ?_; rintro e _ ⟨rfl, hb⟩; replace H := hidp (H.out.call hb); clear hb); (try simp only [Act.put, aQ]); have tk3 := hidp trivial) | (clear tk3; (refine Mm.ld0 naI H rfl (.tmp 14) 1 (.int .i64 x.e) rfl rfl (En.get1 _) ?_); (try simp only [Act.put, aQ]); have tk4 := hidp trivial))
     try clear tk4
     go_ret
     exact ⟨by rw [HF.out]; first | done | rfl, H.out.below⟩
   have e1 : decide (x.e < 0) = false := by simpa using a1
   by_cases a2 : x.e > 4096
   · have HF := hidp (show eE x = 2 from eE_of (by rw [HOK.out, show cnt x.e = false from decide_eq_false (by omega)]; simp))
     have e2 : decide (x.e > 4096) = true := by simpa using a2
     have n2 : (4096 : Int) < x.e := a2
     clear hw
     go_enter Tryz.func54, Tryz.ntmps54
     have tk0 := hidp trivial
     go_wp2_with (first | (clear tk0; (refine Mm.box 27 H rfl (.tmp 0) rfl x.row rfl ?_; clear H; intro b1 _ H nw; have hb := nw.below; clear hb nw); (try simp only [Act.put, aQ]); have tk1 := hidp trivial) | (clear tk1; (refine Mm.ld0 naS H rfl (.tmp 6) 0 (.string x.r) rfl rfl (En.get0 _) ?_); (try simp only [Act.put, aQ]); have tk2 := hidp trivial) | (clear tk2; (go_at_call 73; refine (cr.out _).mono ?_; rintro e _ ⟨rfl, hb⟩; replace H := hidp (H.out.call hb); clear hb); (try simp only [Act.put, aQ]); have tk3 := hidp trivial) | (clear tk3; (refine Mm.ld0 naI H rfl (.tmp 14) 1 (.int .i64 x.e) rfl rfl (En.get1 _) ?_); (try simp only [Act.put, aQ]); have tk4 := hidp trivial) | (clear tk4; (refine Mm.ld0 naI H rfl (.tmp 19) 1 (.int .i64 x.e) rfl rfl (En.get1 _) ?_); (try simp only [Act.put, aQ]); have tk5 := hidp trivial))
     try clear tk5
     go_ret
     exact ⟨by rw [HF.out]; first | done | rfl, H.out.below⟩
   have e2 : decide (x.e > 4096) = false := by simpa using a2
   have n2 : ¬ (4096 : Int) < x.e := a2
   by_cases a3 : x.i < 0
   · have HF := hidp (show eE x = 2 from eE_of (by rw [HOK.out, show cnt x.i = false from decide_eq_false (by omega)]; simp))
     have e3 : decide (x.i < 0) = true := by simpa using a3
     clear hw
     go_enter Tryz.func54, Tryz.ntmps54
     have tk0 := hidp trivial
     go_wp2_with (first | (clear tk0; (refine Mm.box 27 H rfl (.tmp 0) rfl x.row rfl ?_; clear H; intro b1 _ H nw; have hb := nw.below; clear hb nw); (try simp only [Act.put, aQ]); have tk1 := hidp trivial) | (clear tk1; (refine Mm.ld0 naS H rfl (.tmp 6) 0 (.string x.r) rfl rfl (En.get0 _) ?_); (try simp only [Act.put, aQ]); have tk2 := hidp trivial) | (clear tk2; (go_at_call 73; refine (cr.out _).mono ?_; rintro e _ ⟨rfl, hb⟩; replace H := hidp (H.out.call hb); clear hb); (try simp only [Act.put, aQ]); have tk3 := hidp trivial) | (clear tk3; (refine Mm.ld0 naI H rfl (.tmp 14) 1 (.int .i64 x.e) rfl rfl (En.get1 _) ?_); (try simp only [Act.put, aQ]); have tk4 := hidp trivial) | (clear tk4; (refine Mm.ld0 naI H rfl (.tmp 19) 1 (.int .i64 x.e) rfl rfl (En.get1 _) ?_); (try simp only [Act.put, aQ]); have tk5 := hidp trivial) | (clear tk5; (refine Mm.ld0 naI H rfl (.tmp 24) 2 (.int .i64 x.i) rfl rfl (En.get2 _) ?_); (try simp only [Act.put, aQ]); have tk6 := hidp trivial))
     try clear tk6
     go_ret
     exact ⟨by rw [HF.out]; first | done | rfl, H.out.below⟩
   have e3 : decide (x.i < 0) = false := by simpa using a3
   by_cases a4 : x.i > 4096
   · have HF := hidp (show eE x = 2 from eE_of (by rw [HOK.out, show cnt x.i = false from decide_eq_false (by omega)]; simp))
     have e4 : decide (x.i > 4096) = true := by simpa using a4
     have n4 : (4096 : Int) < x.i := a4
     clear hw
     go_enter Tryz.func54, Tryz.ntmps54
     have tk0 := hidp trivial
     go_wp2_with (first | (clear tk0; (refine Mm.box 27 H rfl (.tmp 0) rfl x.row rfl ?_; clear H; intro b1 _ H nw; have hb := nw.below; clear hb nw); (try simp only [Act.put, aQ]); have tk1 := hidp trivial) | (clear tk1; (refine Mm.ld0 naS H rfl (.tmp 6) 0 (.string x.r) rfl rfl (En.get0 _) ?_); (try simp only [Act.put, aQ]); have tk2 := hidp trivial) | (clear tk2; (go_at_call 73; refine (cr.out _).mono ?_; rintro e _ ⟨rfl, hb⟩; replace H := hidp (H.out.call hb); clear hb); (try simp only [Act.put, aQ]); have tk3 := hidp trivial) | (clear tk3; (refine Mm.ld0 naI H rfl (.tmp 14) 1 (.int .i64 x.e) rfl rfl (En.get1 _) ?_); (try simp only [Act.put, aQ]); have tk4 := hidp trivial) | (clear tk4; (refine Mm.ld0 naI H rfl (.tmp 19) 1 (.int .i64 x.e) rfl rfl (En.get1 _) ?_); (try simp only [Act.put, aQ]); have tk5 := hidp trivial) | (clear tk5; (refine Mm.ld0 naI H rfl (.tmp 24) 2 (.int .i64 x.i) rfl rfl (En.get2 _) ?_); (try simp only [Act.put, aQ]); have tk6 := hidp trivial) | (clear tk6; (refine Mm.ld0 naI H rfl (.tmp 29) 2 (.int .i64 x.i) rfl rfl (En.get2 _) ?_); (try simp only [Act.put, aQ]); have tk7 := hidp trivial))
     try clear tk7
     go_ret
     exact ⟨by rw [HF.out]; first | done | rfl, H.out.below⟩
   have e4 : decide (x.i > 4096) = false := by simpa using a4
   have n4 : ¬ (4096 : Int) < x.i := a4
   by_cases hv : x.v.size ≤ 8192
   · have e5 : decide ((x.v.size : Int) > 8192) = false := by simp; omega
     have n5 : ¬ (8192 : Int) < (x.v.size : Int) := by omega
     by_cases hg : x.g.size ≤ 8192
     · have e6 : decide ((x.g.size : Int) > 8192) = false := by simp; omega
       have n6 : ¬ (8192 : Int) < (x.g.size : Int) := by omega
       have HF := hidp (show eE x = 0 from eE_yes (by rw [HOK.out, hw, show cnt x.e = true from decide_eq_true (by omega), show cnt x.i = true from decide_eq_true (by omega)]; simp [hv, hg]))
       clear hw hv hg
       go_enter Tryz.func54, Tryz.ntmps54
       have tk0 := hidp trivial
       go_wp2_with (first | (clear tk0; (refine Mm.box 27 H rfl (.tmp 0) rfl x.row rfl ?_; clear H; intro b1 _ H nw; have hb := nw.below; clear hb nw); (try simp only [Act.put, aQ]); have tk1 := hidp trivial) | (clear tk1; (refine Mm.ld0 naS H rfl (.tmp 6) 0 (.string x.r) rfl rfl (En.get0 _) ?_); (try simp only [Act.put, aQ]); have tk2 := hidp trivial) | (clear tk2; (go_at_call 73; refine (cr.out _).mono ?_; rintro e _ ⟨rfl, hb⟩; replace H := hidp (H.out.call hb); clear hb); (try simp only [Act.put, aQ]); have tk3 := hidp trivial) | (clear tk3; (refine Mm.ld0 naI H rfl (.tmp 14) 1 (.int .i64 x.e) rfl rfl (En.get1 _) ?_); (try simp only [Act.put, aQ]); have tk4 := hidp trivial) | (clear tk4; (refine Mm.ld0 naI H rfl (.tmp 19) 1 (.int .i64 x.e) rfl rfl (En.get1 _) ?_); (try simp only [Act.put, aQ]); have tk5 := hidp trivial) | (clear tk5; (refine Mm.ld0 naI H rfl (.tmp 24) 2 (.int .i64 x.i) rfl rfl (En.get2 _) ?_); (try simp only [Act.put, aQ]); have tk6 := hidp trivial) | (clear tk6; (refine Mm.ld0 naI H rfl (.tmp 29) 2 (.int .i64 x.i) rfl rfl (En.get2 _) ?_); (try simp only [Act.put, aQ]); have tk7 := hidp trivial) | (clear tk7; (refine Mm.ld0 naS H rfl (.tmp 34) 35 (.string x.v) rfl rfl (En.get35 HP.out) ?_); (try simp only [Act.put, aQ]); have tk8 := hidp trivial) | (clear tk8; (refine Mm.ld0 naS H rfl (.tmp 40) 36 (.string x.g) rfl rfl (En.get36 HP.out) ?_); (try simp only [Act.put, aQ]); have tk9 := hidp trivial))
       try clear tk9
       go_ret
       exact ⟨by rw [HF.out]; first | done | rfl, H.out.below⟩
     · have e6 : decide ((x.g.size : Int) > 8192) = true := by simp; omega
       have n6 : (8192 : Int) < (x.g.size : Int) := by omega
       have HF := hidp (show eE x = 2 from eE_of (by rw [HOK.out]; simp [hg]))
       clear hw hv hg
       go_enter Tryz.func54, Tryz.ntmps54
       have tk0 := hidp trivial
       go_wp2_with (first | (clear tk0; (refine Mm.box 27 H rfl (.tmp 0) rfl x.row rfl ?_; clear H; intro b1 _ H nw; have hb := nw.below; clear hb nw); (try simp only [Act.put, aQ]); have tk1 := hidp trivial) | (clear tk1; (refine Mm.ld0 naS H rfl (.tmp 6) 0 (.string x.r) rfl rfl (En.get0 _) ?_); (try simp only [Act.put, aQ]); have tk2 := hidp trivial) | (clear tk2; (go_at_call 73; refine (cr.out _).mono ?_; rintro e _ ⟨rfl, hb⟩; replace H := hidp (H.out.call hb); clear hb); (try simp only [Act.put, aQ]); have tk3 := hidp trivial) | (clear tk3; (refine Mm.ld0 naI H rfl (.tmp 14) 1 (.int .i64 x.e) rfl rfl (En.get1 _) ?_); (try simp only [Act.put, aQ]); have tk4 := hidp trivial) | (clear tk4; (refine Mm.ld0 naI H rfl (.tmp 19) 1 (.int .i64 x.e) rfl rfl (En.get1 _) ?_); (try simp only [Act.put, aQ]); have tk5 := hidp trivial) | (clear tk5; (refine Mm.ld0 naI H rfl (.tmp 24) 2 (.int .i64 x.i) rfl rfl (En.get2 _) ?_); (try simp only [Act.put, aQ]); have tk6 := hidp trivial) | (clear tk6; (refine Mm.ld0 naI H rfl (.tmp 29) 2 (.int .i64 x.i) rfl rfl (En.get2 _) ?_); (try simp only [Act.put, aQ]); have tk7 := hidp trivial) | (clear tk7; (refine Mm.ld0 naS H rfl (.tmp 34) 35 (.string x.v) rfl rfl (En.get35 HP.out) ?_); (try simp only [Act.put, aQ]); have tk8 := hidp trivial) | (clear tk8; (refine Mm.ld0 naS H rfl (.tmp 40) 36 (.string x.g) rfl rfl (En.get36 HP.out) ?_); (try simp only [Act.put, aQ]); have tk9 := hidp trivial))
       try clear tk9
       go_ret
       exact ⟨by rw [HF.out]; first | done | rfl, H.out.below⟩
   · have e5 : decide ((x.v.size : Int) > 8192) = true := by simp; omega
     have n5 : (8192 : Int) < (x.v.size : Int) := by omega
     have HF := hidp (show eE x = 2 from eE_of (by rw [HOK.out]; simp [hv]))
     clear hw hv
     go_enter Tryz.func54, Tryz.ntmps54
     have tk0 := hidp trivial
     go_wp2_with (first | (clear tk0; (refine Mm.box 27 H rfl (.tmp 0) rfl x.row rfl ?_; clear H; intro b1 _ H nw; have hb := nw.below; clear hb nw); (try simp only [Act.put, aQ]); have tk1 := hidp trivial) | (clear tk1; (refine Mm.ld0 naS H rfl (.tmp 6) 0 (.string x.r) rfl rfl (En.get0 _) ?_); (try simp only [Act.put, aQ]); have tk2 := hidp trivial) | (clear tk2; (go_at_call 73; refine (cr.out _).mono ?_; rintro e _ ⟨rfl, hb⟩; replace H := hidp (H.out.call hb); clear hb); (try simp only [Act.put, aQ]); have tk3 := hidp trivial) | (clear tk3; (refine Mm.ld0 naI H rfl (.tmp 14) 1 (.int .i64 x.e) rfl rfl (En.get1 _) ?_); (try simp only [Act.put, aQ]); have tk4 := hidp trivial) | (clear tk4; (refine Mm.ld0 naI H rfl (.tmp 19) 1 (.int .i64 x.e) rfl rfl (En.get1 _) ?_); (try simp only [Act.put, aQ]); have tk5 := hidp trivial) | (clear tk5; (refine Mm.ld0 naI H rfl (.tmp 24) 2 (.int .i64 x.i) rfl rfl (En.get2 _) ?_); (try simp only [Act.put, aQ]); have tk6 := hidp trivial) | (clear tk6; (refine Mm.ld0 naI H rfl (.tmp 29) 2 (.int .i64 x.i) rfl rfl (En.get2 _) ?_); (try simp only [Act.put, aQ]); have tk7 := hidp trivial) | (clear tk7; (refine Mm.ld0 naS H rfl (.tmp 34) 35 (.string x.v) rfl rfl (En.get35 HP.out) ?_); (try simp only [Act.put, aQ]); have tk8 := hidp trivial))
     try clear tk8
     go_ret
     exact ⟨by rw [HF.out]; first | done | rfl, H.out.below⟩
theorem rtext_any (w : World) (x : En) (hx : x.ok) : Calls Tryz.prog 18 #[.agg x.row.toArray] w fun e w' => e = .returned (.tuple #[.string (eT x), .int .i64 (eE x)]) ∧ Below w.heap.size w w' := by
 have H := hidp (Mm.M.nil w)
 have HP := hidp hx.p
 have cc := hidp (fun W => rcheck_any W x hx)
 clear hx
 cases hok : eOk x with
 | false =>
   rw [eE_no hok] at cc ⊢
   rw [eT_no hok]
   clear hok
   go_enter Tryz.func18, Tryz.ntmps18
   have tk0 := hidp trivial
   go_wp2_with (first | (clear tk0; (refine Mm.box 27 H rfl (.tmp 0) rfl x.row rfl ?_; clear H; intro b1 _ H nw; have hb := nw.below; clear hb nw); (try simp only [Act.put, aQ]); have tk1 := hidp trivial) | (clear tk1; (refine Mm.get0 rtE H rfl (.tmp 1) rfl rfl (En.len HP.out) ?_); (try simp only [Act.put, aQ]); have tk2 := hidp trivial) | (clear tk2; (go_at_call 54; refine (cc.out _).mono ?_; rintro e _ ⟨rfl, hb⟩; replace H := hidp (H.out.call hb); clear cc; clear hb); (try simp only [Act.put, aQ]); have tk3 := hidp trivial))
   try clear tk3
   go_ret2
   exact ⟨rfl, H.out.below⟩
 | true =>
   rw [eE_yes hok] at cc ⊢
   obtain ⟨-, h2, h3, -, -⟩ := eOk_parts hok
   obtain ⟨ne, hne⟩ := Int.eq_ofNat_of_zero_le h2.1
   obtain ⟨ni, hni⟩ := Int.eq_ofNat_of_zero_le h3.1
   have hlok := eL_ok hok HP.out
   have hT : eT x = listS (eL x) ∧ (0 : Int) = listE (eL x) := by rw [eT_yes hok, listS_yes hlok, listE_yes hlok]; exact ⟨rfl, rfl⟩
   have hL : eL x = [wEntry, x.r, mkS (encN ne), mkS (encN ni), mkS x.p, x.v] := by unfold eL; rw [hne, hni]; rfl
   have HE1 := hidp (show x.row[1]? = some (.int .i64 (ne : Int)) from by rw [En.get1, hne])
   have HI1 := hidp (show x.row[2]? = some (.int .i64 (ni : Int)) from by rw [En.get2, hni])
   have ce := hidp (fun W => refNum_any W ne (by omega))
   rw [numS_yes (by omega), numE_yes (by omega)] at ce
   have ci := hidp (fun W => refNum_any W ni (by omega))
   rw [numS_yes (by omega), numE_yes (by omega)] at ci
   have w1 : IntKind.u64.wrap (ne : Int) = (ne : Int) := by unfold IntKind.wrap; simp [IntKind.bits, IntKind.signed]; omega
   have w2 : IntKind.u64.wrap (ni : Int) = (ni : Int) := by unfold IntKind.wrap; simp [IntKind.bits, IntKind.signed]; omega
   rw [hL] at hlok hT
   have cl := hidp (fun W v (hat : StrsAt W v [wEntry, x.r, mkS (encN ne), mkS (encN ni), mkS x.p, x.v]) => refList_any W v _ hat (by simp) (fun s hs => by have := hlok.2 s hs; omega))
   rw [← hT.1, ← hT.2] at cl
   obtain ⟨T, hTT⟩ : ∃ T, eT x = T := ⟨_, rfl⟩
   rw [hTT] at cl ⊢
   clear hok h2 h3 hne hni hlok hT hL hTT
   go_enter Tryz.func18, Tryz.ntmps18
   have tk0 := hidp trivial
   go_wp2_with (first | (clear tk0; (refine Mm.box 27 H rfl (.tmp 0) rfl x.row rfl ?_; clear H; intro b1 _ H nw; have hb := nw.below; clear hb nw); (try simp only [Act.put, aQ]); have tk1 := hidp trivial) | (clear tk1; (refine Mm.get0 rtE H rfl (.tmp 1) rfl rfl (En.len HP.out) ?_); (try simp only [Act.put, aQ]); have tk2 := hidp trivial) | (clear tk2; (go_at_call 54; refine (cc.out _).mono ?_; rintro e _ ⟨rfl, hb⟩; replace H := hidp (H.out.call hb); clear cc; clear hb); (try simp only [Act.put, aQ]); have tk3 := hidp trivial) | (clear tk3; (refine Mm.ld0 naI H rfl (.tmp 12) 1 (.int .i64 (ne : Int)) rfl rfl HE1.out ?_); (try simp only [Act.put, aQ]); have tk4 := hidp trivial) | (clear tk4; (go_at_call 55; refine (ce.out _).mono ?_; rintro e _ ⟨rfl, hb⟩; replace H := hidp (H.out.call hb); clear hb); (try simp only [Act.put, aQ]); have tk5 := hidp trivial) | (clear tk5; (refine Mm.ld0 naI H rfl (.tmp 19) 2 (.int .i64 (ni : Int)) rfl rfl HI1.out ?_); (try simp only [Act.put, aQ]); have tk6 := hidp trivial) | (clear tk6; (go_at_call 55; refine (ci.out _).mono ?_; rintro e _ ⟨rfl, hb⟩; replace H := hidp (H.out.call hb); clear hb); (try simp only [Act.put, aQ]); have tk7 := hidp trivial))
   try clear tk7
   refine Mm.region H (.take 0 (.take 1 (.take 2 (.take 3 (.take 4 (.take 5 (.take 6 (.take 7 (.take 8 (.one 9 (.one 10 (.take 11 (.take 12 (.take 13 (.take 14 .done))))))))))))))) (by kernel_rfl) (by kernel_rfl) (by simp [Scr.depth]) (by kernel_rfl) ?_
   clear H
   intro _ H hb
   clear hb
   apply s_val
   case ho | hw => rfl
   case hv => intro w hw; go_simp; first | done | rfl
   simp only [Act.put, aP]
   refine Mm.sld0 naS (fun w h => h) rfl rfl (.tmp 25) 0 (.string x.r) rfl rfl (En.get0 _) ?_
   iterate 3
    simp only [Act.put, aP]
    apply s_val
    case ho | hw => rfl
    case hv => intro w hw; go_simp; first | done | rfl
   simp only [Act.put, aP]
   refine s_slc rfl rfl (.tmp 29) rfl b1 3 rfl ?_
   simp only [Act.put, aP]
   refine s_cnv rfl rfl (.tmp 30) rfl _ (mkS x.p) rfl (fun W hW => conv32 W b1 x HP.out hW.at0) ?_
   simp only [Act.put, aP]
   apply s_val
   case ho | hw => rfl
   case hv => intro w hw; go_simp; first | done | rfl
   simp only [Act.put, aP]
   refine Mm.sld0 naS (fun w h => h) rfl rfl (.tmp 32) 35 (.string x.v) rfl rfl (En.get35 HP.out) ?_
   simp only [Act.put, aP]
   refine o_bsS6 H (fun W h => h) rfl rfl _ _ _ _ _ _ wEntry x.r (mkS (encN ne)) (mkS (encN ni)) (mkS x.p) x.v rfl rfl rfl rfl rfl rfl rfl ?_
   clear H
   intro b9 _ H nw
   have hb := nw.below
   clear hb nw
   simp only [Act.put, aP]
   have hsl := (Sl.own_arr (B := 0) (row := strV [wEntry, x.r, mkS (encN ne), mkS (encN ni), mkS x.p, x.v]) H.out.at0 (Nat.zero_le _) (by simp [strV])).strs
   refine Mm.o_callH (v := .tuple #[.string T, .int .i64 0]) H (fun W h => h.tail) rfl rfl 56 (#[.slice (some ⟨b9, 0, none⟩) 6 6]) (by go_simp; first | done | rfl) (cl.out _ _ hsl) ?_
   clear H
   intro _ H hb
   clear hsl cl
   clear hb
   iterate 4
    simp only [Act.put, aP]
    apply s_val
    case ho | hw => rfl
    case hv => intro w hw; go_simp; first | done | rfl
   simp only [Act.put, aP]
   refine NoPanic.normal ?_
   go_wp2
   go_ret2
   exact ⟨rfl, H.out.below⟩
end Go.Proofs.YtbgooppmhgaicaaGreatDoor.En
