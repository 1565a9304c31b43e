import Derived.Test.YtbgooppmhgaicaaGreatDoorEU1
import Derived.Test.YtbgooppmhgaicaaGreatDoorER2
set_option linter.unusedVariables false
set_option linter.unusedSimpArgs false
set_option maxHeartbeats 64000000
set_option maxRecDepth 100000
namespace Go.Proofs.YtbgooppmhgaicaaGreatDoor.Hd
open Go.RowKit
open List (getElem_toArray getElem_cons_zero getElem_cons_succ setIfInBounds_toArray set_cons_zero set_cons_succ)
open En (cnt num4 num4_in z32e naS naI rtH u8_one hsV hsE hsV_len ohash_any s_cnv wpL_slc or4 or4_zero or4_any four s_bld wpL_bsE4)
open En (smN)
open Ho (inE inV in_zero in_not al_sz)
theorem rjcheck_any (w : World) (x : Hd) (hx : x.ok) : Calls Tryz.prog 32 #[.agg x.row.toArray] w fun e w' => e = .returned (.int .i64 (jE x)) ∧ Below w.heap.size w w' := by
 have H := hidp (Mm.M.nil w)
 have HP := hidp hx.p
 have cr := hidp (fun W => rroom_any W x.r (by have := hx.r; omega))
 clear hx
 have HOK := hidp (show jOk x = ((who 2 x.r).isSome && cnt x.e && cnt x.i && decide (x.g.size ≤ 8192)) from rfl)
 cases hw : who 2 x.r with
 | none =>
   have HF := hidp (show jE x = 2 from jE_of (by rw [HOK.out, hw]; simp))
   rw [hw] at cr; unfold whoV at cr
   clear hw
   go_enter Tryz.func32, Tryz.ntmps32
   have tk0 := hT
   go_wp2_with (first | (clear tk0; (refine Mm.box 53 H rfl (.tmp 0) rfl x.row rfl ?_; clear H; intro b1 _ H nw; clear nw); (try simp only [Act.put, aQ]); have tk1 := hT) | (clear tk1; (refine Mm.ld0 naS H rfl (.tmp 6) 0 (.string x.r) rfl rfl (Hd.get0 _) ?_); (try simp only [Act.put, aQ]); have tk2 := hT) | (clear tk2; (go_at_call 73; refine (cr.out _).mono ?_; rintro e _ ⟨rfl, hb⟩; replace H := hidp (H.out.call hb); clear hb); (try simp only [Act.put, aQ]); have tk3 := hT))
   try clear tk3
   go_ret
   exact ⟨by rw [HF.out]; first | done | rfl, H.out.below⟩
 | some nn =>
   rw [hw] at cr; unfold whoV at cr
   by_cases a1 : x.e < 0
   · have HF := hidp (show jE x = 2 from jE_of (by rw [HOK.out, show cnt x.e = false from decide_eq_false (by omega)]; simp))
     have e1 : decide (x.e < 0) = true := by simpa using a1
     clear hw
     go_enter Tryz.func32, Tryz.ntmps32
     have tk0 := hT
     go_wp2_with (first | (clear tk0; (refine Mm.box 53 H rfl (.tmp 0) rfl x.row rfl ?_; clear H; intro b1 _ H nw; clear nw); (try simp only [Act.put, aQ]); have tk1 := hT) | (clear tk1; (refine Mm.ld0 naS H rfl (.tmp 6) 0 (.string x.r) rfl rfl (Hd.get0 _) ?_); (try simp only [Act.put, aQ]); have tk2 := hT) | (clear tk2; (go_at_call 73; refine (cr.out _).mono ?_; rintro e _ ⟨rfl, hb⟩; replace H := hidp (H.out.call hb); clear hb); (try simp only [Act.put, aQ]); have tk3 := hT) | (clear tk3; (refine Mm.ld0 naI H rfl (.tmp 14) 1 (.int .i64 x.e) rfl rfl (Hd.get1 _) ?_); (try simp only [Act.put, aQ]); have tk4 := hT))
     try clear tk4
     go_ret
     exact ⟨by rw [HF.out]; first | done | rfl, H.out.below⟩
   have e1 : decide (x.e < 0) = false := by simpa using a1
   by_cases a2 : x.e > 4096
   · have HF := hidp (show jE x = 2 from jE_of (by rw [HOK.out, show cnt x.e = false from decide_eq_false (by omega)]; simp))
     have e2 : decide (x.e > 4096) = true := by simpa using a2
     have n2 : (4096 : Int) < x.e := a2
     clear hw
     go_enter Tryz.func32, Tryz.ntmps32
     have tk0 := hT
     go_wp2_with (first | (clear tk0; (refine Mm.box 53 H rfl (.tmp 0) rfl x.row rfl ?_; clear H; intro b1 _ H nw; clear nw); (try simp only [Act.put, aQ]); have tk1 := hT) | (clear tk1; (refine Mm.ld0 naS H rfl (.tmp 6) 0 (.string x.r) rfl rfl (Hd.get0 _) ?_); (try simp only [Act.put, aQ]); have tk2 := hT) | (clear tk2; (go_at_call 73; refine (cr.out _).mono ?_; rintro e _ ⟨rfl, hb⟩; replace H := hidp (H.out.call hb); clear hb); (try simp only [Act.put, aQ]); have tk3 := hT) | (clear tk3; (refine Mm.ld0 naI H rfl (.tmp 14) 1 (.int .i64 x.e) rfl rfl (Hd.get1 _) ?_); (try simp only [Act.put, aQ]); have tk4 := hT) | (clear tk4; (refine Mm.ld0 naI H rfl (.tmp 19) 1 (.int .i64 x.e) rfl rfl (Hd.get1 _) ?_); (try simp only [Act.put, aQ]); have tk5 := hT))
     try clear tk5
     go_ret
     exact ⟨by rw [HF.out]; first | done | rfl, H.out.below⟩
   have e2 : decide (x.e > 4096) = false := by simpa using a2
   have n2 : ¬ (4096 : Int) < x.e := a2
   by_cases a3 : x.i < 0
   · have HF := hidp (show jE x = 2 from jE_of (by rw [HOK.out, show cnt x.i = false from decide_eq_false (by omega)]; simp))
     have e3 : decide (x.i < 0) = true := by simpa using a3
     clear hw
     go_enter Tryz.func32, Tryz.ntmps32
     have tk0 := hT
     go_wp2_with (first | (clear tk0; (refine Mm.box 53 H rfl (.tmp 0) rfl x.row rfl ?_; clear H; intro b1 _ H nw; clear nw); (try simp only [Act.put, aQ]); have tk1 := hT) | (clear tk1; (refine Mm.ld0 naS H rfl (.tmp 6) 0 (.string x.r) rfl rfl (Hd.get0 _) ?_); (try simp only [Act.put, aQ]); have tk2 := hT) | (clear tk2; (go_at_call 73; refine (cr.out _).mono ?_; rintro e _ ⟨rfl, hb⟩; replace H := hidp (H.out.call hb); clear hb); (try simp only [Act.put, aQ]); have tk3 := hT) | (clear tk3; (refine Mm.ld0 naI H rfl (.tmp 14) 1 (.int .i64 x.e) rfl rfl (Hd.get1 _) ?_); (try simp only [Act.put, aQ]); have tk4 := hT) | (clear tk4; (refine Mm.ld0 naI H rfl (.tmp 19) 1 (.int .i64 x.e) rfl rfl (Hd.get1 _) ?_); (try simp only [Act.put, aQ]); have tk5 := hT) | (clear tk5; (refine Mm.ld0 naI H rfl (.tmp 24) 2 (.int .i64 x.i) rfl rfl (Hd.get2 _) ?_); (try simp only [Act.put, aQ]); have tk6 := hT))
     try clear tk6
     go_ret
     exact ⟨by rw [HF.out]; first | done | rfl, H.out.below⟩
   have e3 : decide (x.i < 0) = false := by simpa using a3
   by_cases a4 : x.i > 4096
   · have HF := hidp (show jE x = 2 from jE_of (by rw [HOK.out, show cnt x.i = false from decide_eq_false (by omega)]; simp))
     have e4 : decide (x.i > 4096) = true := by simpa using a4
     have n4 : (4096 : Int) < x.i := a4
     clear hw
     go_enter Tryz.func32, Tryz.ntmps32
     have tk0 := hT
     go_wp2_with (first | (clear tk0; (refine Mm.box 53 H rfl (.tmp 0) rfl x.row rfl ?_; clear H; intro b1 _ H nw; clear nw); (try simp only [Act.put, aQ]); have tk1 := hT) | (clear tk1; (refine Mm.ld0 naS H rfl (.tmp 6) 0 (.string x.r) rfl rfl (Hd.get0 _) ?_); (try simp only [Act.put, aQ]); have tk2 := hT) | (clear tk2; (go_at_call 73; refine (cr.out _).mono ?_; rintro e _ ⟨rfl, hb⟩; replace H := hidp (H.out.call hb); clear hb); (try simp only [Act.put, aQ]); have tk3 := hT) | (clear tk3; (refine Mm.ld0 naI H rfl (.tmp 14) 1 (.int .i64 x.e) rfl rfl (Hd.get1 _) ?_); (try simp only [Act.put, aQ]); have tk4 := hT) | (clear tk4; (refine Mm.ld0 naI H rfl (.tmp 19) 1 (.int .i64 x.e) rfl rfl (Hd.get1 _) ?_); (try simp only [Act.put, aQ]); have tk5 := hT) | (clear tk5; (refine Mm.ld0 naI H rfl (.tmp 24) 2 (.int .i64 x.i) rfl rfl (Hd.get2 _) ?_); (try simp only [Act.put, aQ]); have tk6 := hT) | (clear tk6; (refine Mm.ld0 naI H rfl (.tmp 29) 2 (.int .i64 x.i) rfl rfl (Hd.get2 _) ?_); (try simp only [Act.put, aQ]); have tk7 := hT))
     try clear tk7
     go_ret
     exact ⟨by rw [HF.out]; first | done | rfl, H.out.below⟩
   have e4 : decide (x.i > 4096) = false := by simpa using a4
   have n4 : ¬ (4096 : Int) < x.i := a4
   by_cases hg : x.g.size ≤ 8192
   · have e6 : decide ((x.g.size : Int) > 8192) = false := by simp; omega
     have n6 : ¬ (8192 : Int) < (x.g.size : Int) := by omega
     have HF := hidp (show jE x = 0 from jE_yes (by rw [HOK.out, hw, show cnt x.e = true from decide_eq_true (by omega), show cnt x.i = true from decide_eq_true (by omega)]; simp [hg]))
     clear hw hg
     go_enter Tryz.func32, Tryz.ntmps32
     have tk0 := hT
     go_wp2_with (first | (clear tk0; (refine Mm.box 53 H rfl (.tmp 0) rfl x.row rfl ?_; clear H; intro b1 _ H nw; clear nw); (try simp only [Act.put, aQ]); have tk1 := hT) | (clear tk1; (refine Mm.ld0 naS H rfl (.tmp 6) 0 (.string x.r) rfl rfl (Hd.get0 _) ?_); (try simp only [Act.put, aQ]); have tk2 := hT) | (clear tk2; (go_at_call 73; refine (cr.out _).mono ?_; rintro e _ ⟨rfl, hb⟩; replace H := hidp (H.out.call hb); clear hb); (try simp only [Act.put, aQ]); have tk3 := hT) | (clear tk3; (refine Mm.ld0 naI H rfl (.tmp 14) 1 (.int .i64 x.e) rfl rfl (Hd.get1 _) ?_); (try simp only [Act.put, aQ]); have tk4 := hT) | (clear tk4; (refine Mm.ld0 naI H rfl (.tmp 19) 1 (.int .i64 x.e) rfl rfl (Hd.get1 _) ?_); (try simp only [Act.put, aQ]); have tk5 := hT) | (clear tk5; (refine Mm.ld0 naI H rfl (.tmp 24) 2 (.int .i64 x.i) rfl rfl (Hd.get2 _) ?_); (try simp only [Act.put, aQ]); have tk6 := hT) | (clear tk6; (refine Mm.ld0 naI H rfl (.tmp 29) 2 (.int .i64 x.i) rfl rfl (Hd.get2 _) ?_); (try simp only [Act.put, aQ]); have tk7 := hT) | (clear tk7; (refine Mm.ld0 naS H rfl (.tmp 34) 35 (.string x.g) rfl rfl (Hd.get35 HP.out) ?_); (try simp only [Act.put, aQ]); have tk8 := hT))
     try clear tk8
     go_ret
     exact ⟨by rw [HF.out]; first | done | rfl, H.out.below⟩
   · have e6 : decide ((x.g.size : Int) > 8192) = true := by simp; omega
     have n6 : (8192 : Int) < (x.g.size : Int) := by omega
     have HF := hidp (show jE x = 2 from jE_of (by rw [HOK.out]; simp [hg]))
     clear hw hg
     go_enter Tryz.func32, Tryz.ntmps32
     have tk0 := hT
     go_wp2_with (first | (clear tk0; (refine Mm.box 53 H rfl (.tmp 0) rfl x.row rfl ?_; clear H; intro b1 _ H nw; clear nw); (try simp only [Act.put, aQ]); have tk1 := hT) | (clear tk1; (refine Mm.ld0 naS H rfl (.tmp 6) 0 (.string x.r) rfl rfl (Hd.get0 _) ?_); (try simp only [Act.put, aQ]); have tk2 := hT) | (clear tk2; (go_at_call 73; refine (cr.out _).mono ?_; rintro e _ ⟨rfl, hb⟩; replace H := hidp (H.out.call hb); clear hb); (try simp only [Act.put, aQ]); have tk3 := hT) | (clear tk3; (refine Mm.ld0 naI H rfl (.tmp 14) 1 (.int .i64 x.e) rfl rfl (Hd.get1 _) ?_); (try simp only [Act.put, aQ]); have tk4 := hT) | (clear tk4; (refine Mm.ld0 naI H rfl (.tmp 19) 1 (.int .i64 x.e) rfl rfl (Hd.get1 _) ?_); (try simp only [Act.put, aQ]); have tk5 := hT) | (clear tk5; (refine Mm.ld0 naI H rfl (.tmp 24) 2 (.int .i64 x.i) rfl rfl (Hd.get2 _) ?_); (try simp only [Act.put, aQ]); have tk6 := hT) | (clear tk6; (refine Mm.ld0 naI H rfl (.tmp 29) 2 (.int .i64 x.i) rfl rfl (Hd.get2 _) ?_); (try simp only [Act.put, aQ]); have tk7 := hT) | (clear tk7; (refine Mm.ld0 naS H rfl (.tmp 34) 35 (.string x.g) rfl rfl (Hd.get35 HP.out) ?_); (try simp only [Act.put, aQ]); have tk8 := hT))
     try clear tk8
     go_ret
     exact ⟨by rw [HF.out]; first | done | rfl, H.out.below⟩
end Go.Proofs.YtbgooppmhgaicaaGreatDoor.Hd
