/-
  The document's boxes: Put.
-/
import Derived.Test.YtokakgjcegmabaaPoR
namespace Go.Proofs.Ytokakgjcegmabaa.Po
set_option maxRecDepth 100000
set_option linter.unusedVariables false
set_option linter.unusedSimpArgs false
open Go.RowKit
open List (getElem_toArray getElem_cons_zero getElem_cons_succ setIfInBounds_toArray set_cons_zero set_cons_succ)

open Go.Conc Go.Shelf Rw
theorem ret_row2 {P : Program} {T k : Nat} {z : List Value} {w : World} (R : Rt.RT P T k z) {fn : Func} {p u t : Tmp} (hr : fn.results = #[.cell p T, .tmp u, .tmp t]) (tmps : Array Value) (b : Nat) (xs : List Value) (v x : Value) (hp : tmps.getD p undef = .pointer (some ⟨b, 0, none⟩)) (hv : tmps.getD u undef = v) (hx : tmps.getD t undef = x) (ha : Arr w b T xs) (hl : xs.length = k) : (results fn tmps).run P w = .ok (.tuple #[.agg xs.toArray, v, x]) w := by
  have hp' : tmps[p]?.getD undef = .pointer (some ⟨b, 0, none⟩) := by simpa using hp
  have hv' : tmps[u]?.getD undef = v := by simpa using hv
  have hx' : tmps[t]?.getD undef = x := by simpa using hx
  have hl' : (loadVar T ⟨b, 0, none⟩).run P w = .ok (.agg xs.toArray) w := by
    rcases R.ut with ⟨fs, hu⟩ | ⟨n, e, hu⟩
    · exact run_loadVar_row w b T T _ (0, 0) _ ha hu rfl (R.size hl)
    · exact run_loadVar_row w b T T _ (0, 0) _ ha hu rfl (R.size hl)
  simp [results, hr, hp', hv', hx', asAddr, hl']
set_option maxHeartbeats 8000000 in
theorem rput_no (w : World) (room gap : Int) (v : Value) (last lost : Int) (hone : v.oneCell' = true) (to : Int) (tx : ByteArray) (h : putOk to = false) : Calls Try.prog 25 #[.agg (dR room gap v last lost).toArray, .int .i64 to, .string tx] w fun e w' => e = .returned (.tuple #[.agg (dR room gap v last lost).toArray, .int .i64 0, .int .i64 1]) ∧ Below w.heap.size w w' := by
  have H := hidp (Mm.M.nil w)
  by_cases h1 : to < 0
  · have e1 : decide (to < 0) = true := decide_eq_true h1
    go_enter Try.func25, Try.ntmps25
    have tk0 := hidp trivial
    go_wp2_with (first | (clear tk0; (refine Mm.box 54 H rfl (.tmp 0) rfl (dR room gap v last lost) rfl ?_; clear H; intro b3 _ H nw; have hb := nw.below; clear hb nw); (try simp only [Act.put, setIfInBounds_toArray, set_cons_zero, set_cons_succ]); have tk1 := hidp trivial) | (clear tk1; (refine Mm.new rtD H (some 6) rfl rfl rfl ?_; clear H; intro b6 _ H nw; have hb := nw.below; clear hb nw); (try simp only [Act.put, setIfInBounds_toArray, set_cons_zero, set_cons_succ]); have tk2 := hidp trivial) | (clear tk2; (refine Mm.get1 rtD H rfl (.tmp 3) rfl rfl rfl ?_); (try simp only [Act.put, setIfInBounds_toArray, set_cons_zero, set_cons_succ]); have tk3 := hidp trivial) | (clear tk3; (refine Mm.put0 rtD H rfl (.tmp 6) (.tmp 15) (dR room gap v last lost) rfl rfl rfl rfl (dR_one hone) rfl ?_; intro _ H2 st; clear st H; have H := H2; clear H2); (try simp only [Act.put, setIfInBounds_toArray, set_cons_zero, set_cons_succ]); have tk4 := hidp trivial))
    try clear tk4
    refine bodyPost_ret (ret_row2 rtD Try.results25 _ b6 _ _ _ rfl rfl rfl H.out.at0 rfl) rfl ⟨rfl, H.out.below⟩
  · have e1 : decide (to < 0) = false := decide_eq_false h1
    have e2 : decide (63 < to) = true := decide_eq_true (by simp [putOk] at h; omega)
    go_enter Try.func25, Try.ntmps25
    have tk0 := hidp trivial
    go_wp2_with (first | (clear tk0; (refine Mm.box 54 H rfl (.tmp 0) rfl (dR room gap v last lost) rfl ?_; clear H; intro b3 _ H nw; have hb := nw.below; clear hb nw); (try simp only [Act.put, setIfInBounds_toArray, set_cons_zero, set_cons_succ]); have tk1 := hidp trivial) | (clear tk1; (refine Mm.new rtD H (some 6) rfl rfl rfl ?_; clear H; intro b6 _ H nw; have hb := nw.below; clear hb nw); (try simp only [Act.put, setIfInBounds_toArray, set_cons_zero, set_cons_succ]); have tk2 := hidp trivial) | (clear tk2; (refine Mm.get1 rtD H rfl (.tmp 3) rfl rfl rfl ?_); (try simp only [Act.put, setIfInBounds_toArray, set_cons_zero, set_cons_succ]); have tk3 := hidp trivial) | (clear tk3; (refine Mm.put0 rtD H rfl (.tmp 6) (.tmp 15) (dR room gap v last lost) rfl rfl rfl rfl (dR_one hone) rfl ?_; intro _ H2 st; clear st H; have H := H2; clear H2); (try simp only [Act.put, setIfInBounds_toArray, set_cons_zero, set_cons_succ]); have tk4 := hidp trivial))
    try clear tk4
    refine bodyPost_ret (ret_row2 rtD Try.results25 _ b6 _ _ _ rfl rfl rfl H.out.at0 rfl) rfl ⟨rfl, H.out.below⟩

set_option maxHeartbeats 8000000 in
theorem rput_full (w : World) (room gap : Int) (v : Value) (L : List Lt) (hv : RsAt 4 w v (ones L)) (last lost : Int) (hlo : 0 ≤ lost ∧ lost ≤ 1048576) (hf : (L.length : Int) = room) (to : Int) (tx : ByteArray) (h : putOk to = true) : Calls Try.prog 25 #[.agg (dR room gap v last lost).toArray, .int .i64 to, .string tx] w fun e w' => e = .returned (.tuple #[.agg (dR room gap v last (lost + 1)).toArray, .int .i64 0, .int .i64 8]) ∧ Below w.heap.size w w' := by
  have H := hidp (Mm.M.nil w)
  have e1 : decide (to < 0) = false := decide_eq_false (by simp [putOk] at h; omega)
  have e2 : decide (63 < to) = false := decide_eq_false (by simp [putOk] at h; omega)
  obtain ⟨a, cv, hva⟩ := hv.form
  have hone := RsAt.oneC hv
  rw [ones_len] at hva
  have e3 : ((L.length : Int) == room) = true := by rw [hf]; simp
  have hw2 := show IntKind.i64.wrap (lost + 1) = lost + 1 from by rw [IntKind.wrap_i64]; omega
  obtain ⟨n, hn⟩ : ∃ n, L.length = n := ⟨_, rfl⟩
  rw [hn] at hva e3
  subst hva
  clear h hv hf hn
  go_enter Try.func25, Try.ntmps25
  have tk0 := hidp trivial
  go_wp2_with (first | (clear tk0; (refine Mm.box 54 H rfl (.tmp 0) rfl (dR room gap (.slice a n cv) last lost) rfl ?_; clear H; intro b3 _ H nw; have hb := nw.below; clear hb nw); (try simp only [Act.put, setIfInBounds_toArray, set_cons_zero, set_cons_succ]); have tk1 := hidp trivial) | (clear tk1; (refine Mm.new rtD H (some 6) rfl rfl rfl ?_; clear H; intro b6 _ H nw; have hb := nw.below; clear hb nw); (try simp only [Act.put, setIfInBounds_toArray, set_cons_zero, set_cons_succ]); have tk2 := hidp trivial) | (clear tk2; (refine Mm.ld1 na1S H rfl (.tmp 16) 2 _ rfl rfl rfl ?_); (try simp only [Act.put, setIfInBounds_toArray, set_cons_zero, set_cons_succ]); have tk3 := hidp trivial) | (clear tk3; (refine Mm.ld1 naI H rfl (.tmp 19) 0 _ rfl rfl rfl ?_); (try simp only [Act.put, setIfInBounds_toArray, set_cons_zero, set_cons_succ]); have tk4 := hidp trivial) | (clear tk4; (refine Mm.ld1 naI H rfl (.tmp 22) 4 _ rfl rfl rfl ?_); (try simp only [Act.put, setIfInBounds_toArray, set_cons_zero, set_cons_succ]); have tk5 := hidp trivial) | (clear tk5; (refine Mm.putF1 H rfl 3 (.tmp 25) (.tmp 24) 4 (.int .i64 (lost + 1)) rfl rfl rfl (by kernel_rfl) rfl (of_decide_eq_true rfl) ?_; intro _ H2 st; clear st H; have H : Hid (Mm.M w.heap.size w _ ([⟨b6, 54, zD⟩, ⟨b3, 54, (dR room gap (.slice a n cv) last (lost + 1))⟩])) := H2; clear H2); (try simp only [Act.put, setIfInBounds_toArray, set_cons_zero, set_cons_succ]); have tk6 := hidp trivial) | (clear tk6; (refine Mm.get1 rtD H rfl (.tmp 3) rfl rfl rfl ?_); (try simp only [Act.put, setIfInBounds_toArray, set_cons_zero, set_cons_succ]); have tk7 := hidp trivial) | (clear tk7; (refine Mm.put0 rtD H rfl (.tmp 6) (.tmp 26) (dR room gap (.slice a n cv) last (lost + 1)) rfl rfl rfl rfl (dR_one hone) rfl ?_; intro _ H2 st; clear st H; have H := H2; clear H2); (try simp only [Act.put, setIfInBounds_toArray, set_cons_zero, set_cons_succ]); have tk8 := hidp trivial))
  try clear tk8
  refine bodyPost_ret (ret_row2 rtD Try.results25 _ b6 _ _ _ rfl rfl rfl H.out.at0 rfl) rfl ⟨rfl, H.out.below⟩

set_option maxHeartbeats 16000000 in
theorem rput_room (w : World) (room gap : Int) (v : Value) (L : List Lt) (hv : RsAt 4 w v (ones L)) (last lost : Int) (hla : 0 ≤ last ∧ last ≤ 1048576) (hf : (L.length : Int) ≠ room) (hL : L.length ≤ 1048575) (to : Int) (tx : ByteArray) (h : putOk to = true) : Calls Try.prog 25 #[.agg (dR room gap v last lost).toArray, .int .i64 to, .string tx] w fun e w' => ∃ v', e = .returned (.tuple #[.agg (dR room gap v' (last + 1) lost).toArray, .int .i64 (last + 1), .int .i64 0]) ∧ OwnR 92 4 w' w.heap.size v' (ones (L ++ [⟨last + 1, to, tx, false, 0⟩])) ∧ Below w.heap.size w w' := by
  have HV := hidp hv
  have H := hidp (Mm.M.nil w)
  have e1 : decide (to < 0) = false := decide_eq_false (by simp [putOk] at h; omega)
  have e2 : decide (63 < to) = false := decide_eq_false (by simp [putOk] at h; omega)
  obtain ⟨a, cv, hva⟩ := hv.form
  have hone := RsAt.oneC hv
  rw [ones_len] at hva
  have e3 : ((L.length : Int) == room) = false := by rw [beq_eq_false_iff_ne]; exact hf
  have hw2 := show IntKind.i64.wrap (last + 1) = last + 1 from by rw [IntKind.wrap_i64]; omega
  have hlen : L.length ≤ 1048576 := by omega
  have hlen1 : L.length + 1 ≤ 1048576 := by omega
  obtain ⟨n, hn⟩ : ∃ n, L.length = n := ⟨_, rfl⟩
  rw [hn] at hva e3
  subst hva
  clear h hv hf hn
  go_enter Try.func25, Try.ntmps25
  have tk0 := hidp trivial
  go_upto_region 7 with (first | (clear tk0; (refine Mm.box 54 H rfl (.tmp 0) rfl (dR room gap (.slice a n cv) last lost) rfl ?_; clear H; intro b3 _ H nw; have hb := nw.below; clear hb nw); (try simp only [Act.put, setIfInBounds_toArray, set_cons_zero, set_cons_succ]); have tk1 := hidp trivial) | (clear tk1; (refine Mm.new rtD H (some 6) rfl rfl rfl ?_; clear H; intro b6 _ H nw; have hb := nw.below; clear hb nw); (try simp only [Act.put, setIfInBounds_toArray, set_cons_zero, set_cons_succ]); have tk2 := hidp trivial) | (clear tk2; (refine Mm.ld1 na1S H rfl (.tmp 16) 2 _ rfl rfl rfl ?_); (try simp only [Act.put, setIfInBounds_toArray, set_cons_zero, set_cons_succ]); have tk3 := hidp trivial) | (clear tk3; (refine Mm.ld1 naI H rfl (.tmp 19) 0 _ rfl rfl rfl ?_); (try simp only [Act.put, setIfInBounds_toArray, set_cons_zero, set_cons_succ]); have tk4 := hidp trivial) | (clear tk4; (refine Mm.ld1 naI H rfl (.tmp 27) 3 _ rfl rfl rfl ?_); (try simp only [Act.put, setIfInBounds_toArray, set_cons_zero, set_cons_succ]); have tk5 := hidp trivial) | (clear tk5; (refine Mm.putF1 H rfl 3 (.tmp 30) (.tmp 29) 3 (.int .i64 (last + 1)) rfl rfl rfl (by kernel_rfl) rfl (of_decide_eq_true rfl) ?_; intro _ H2 st; clear st H; have H : Hid (Mm.M w.heap.size w _ ([⟨b6, 54, zD⟩, ⟨b3, 54, (dR room gap (.slice a n cv) (last + 1) lost)⟩])) := H2; clear H2); (try simp only [Act.put, setIfInBounds_toArray, set_cons_zero, set_cons_succ]); have tk6 := hidp trivial))
  try clear tk6
  refine regionQ (S := fun W => W.cell? ⟨b3, 3, none⟩ = some (.int .i64 (last + 1))) (.take 1 (.take 4 (.take 5 (.take 6 (.take 7 (.take 8 (.take 9 (.three 0 (.two 2 (.two 3 (.one 10 (.one 11 (.take 12 (.one 13 .done)))) 10 (.one 3 (.one 11 (.take 12 (.one 13 .done))))) 10 (.one 2 (.one 3 (.one 11 (.take 12 (.one 13 .done)))))) 2 (.two 0 (.two 3 (.one 10 (.one 11 (.take 12 (.one 13 .done)))) 10 (.one 3 (.one 11 (.take 12 (.one 13 .done))))) 10 (.one 0 (.one 3 (.one 11 (.take 12 (.one 13 .done)))))) 10 (.two 0 (.one 2 (.one 3 (.one 11 (.take 12 (.one 13 .done))))) 2 (.one 0 (.one 3 (.one 11 (.take 12 (.one 13 .done)))))))))))))) (by kernel_rfl) (by kernel_rfl) (by simp [Scr.depth]) (by kernel_rfl) (by have := H.out.drew.at1.cell 3 (by simp [dR]); simpa [dR] using this) ?_
  replace H := hidp H.out.drew
  apply s_val
  case ho | hw => rfl
  case hv => intro w hw; go_simp; first | done | rfl
  simp only [Act.put, getElem_toArray, getElem_cons_zero, getElem_cons_succ, setIfInBounds_toArray, set_cons_zero, set_cons_succ]
  apply s_val
  case ho | hw => rfl
  case hv => intro w hw; go_simp; first | done | rfl
  simp only [Act.put, getElem_toArray, getElem_cons_zero, getElem_cons_succ, setIfInBounds_toArray, set_cons_zero, set_cons_succ]
  refine Mm.s_ldc naI rfl rfl (.tmp 35) ⟨b3, 3, none⟩ (.int .i64 (last + 1)) rfl rfl (fun W h => h) ?_
  simp only [Act.put, getElem_toArray, getElem_cons_zero, getElem_cons_succ, setIfInBounds_toArray, set_cons_zero, set_cons_succ]
  apply s_val
  case ho | hw => rfl
  case hv => intro w hw; go_simp; first | done | rfl
  simp only [Act.put, getElem_toArray, getElem_cons_zero, getElem_cons_succ, setIfInBounds_toArray, set_cons_zero, set_cons_succ]
  apply s_val
  case ho | hw => rfl
  case hv => intro w hw; go_simp; first | done | rfl
  simp only [Act.put, getElem_toArray, getElem_cons_zero, getElem_cons_succ, setIfInBounds_toArray, set_cons_zero, set_cons_succ]
  refine s_build rfl rfl 75 _ rfl [.int .i64 (last + 1), .int .i64 to, .string tx] (by kernel_rfl) ?_
  simp only [Act.put, getElem_toArray, getElem_cons_zero, getElem_cons_succ, setIfInBounds_toArray, set_cons_zero, set_cons_succ]
  refine s_build rfl rfl 92 _ rfl (Lt.one4 ⟨last + 1, to, tx, false, 0⟩) (by kernel_rfl) ?_
  simp only [Act.put, getElem_toArray, getElem_cons_zero, getElem_cons_succ, setIfInBounds_toArray, set_cons_zero, set_cons_succ]
  refine ⟨?_, ?_, ?_⟩
  · refine o_bs0 ty1 rfl rfl rfl ?_
    intro g0 W0 nw
    have HO0 := hidp (OwnR.empty (k := 4) (B := w.heap.size) nw.arr (Nat.le_trans H.out.below.size nw.le))
    replace H := hidp (H.out.call nw.below)
    have HL0 := hidp nw.lt
    clear nw
    refine ⟨by have := H.out.at1.cell 3 (by simp [dR]); simpa [dR] using this, ?_⟩
    simp only [Act.put, getElem_toArray, getElem_cons_zero, getElem_cons_succ, setIfInBounds_toArray, set_cons_zero, set_cons_succ]
    refine ⟨?_, ?_⟩
    · refine o_ldc na1S rfl rfl (.tmp 32) ⟨b3, 2, none⟩ (.slice a n cv) rfl rfl (by have := H.out.at1.cell 2 (by simp [dR]); simpa [dR] using this) (by have := H.out.at1.cell 3 (by simp [dR]); simpa [dR] using this) ?_
      simp only [Act.put, getElem_toArray, getElem_cons_zero, getElem_cons_succ, setIfInBounds_toArray, set_cons_zero, set_cons_succ]
      refine ⟨?_, ?_⟩
      · refine o_appQ ty1 rfl rfl (.tmp 31) (.tmp 33) rfl w.heap.size _ (.slice a n cv) [] (ones L) rfl rfl HO0.out (HV.out.to H.out.below) (ones_one L) H.out.below.size (by rw [ones_len]; simpa using hlen) ?_
        intro v34 _ ho hg
        replace H := hidp (grownM H.out HO0.out hg (Nat.le_refl _) (by intro x hx; simp at hx; rcases hx with rfl | rfl <;> exact (show 54 ≠ 92 from by decide)))
        skip
        have HO34 := hidp (show OwnR 92 4 _ w.heap.size v34 (ones L) from by simpa using ho)
        clear ho hg HO0
        refine ⟨by have := H.out.at1.cell 3 (by simp [dR]); simpa [dR] using this, ?_⟩
        simp only [Act.put, getElem_toArray, getElem_cons_zero, getElem_cons_succ, setIfInBounds_toArray, set_cons_zero, set_cons_succ]
        refine o_bs1R ty1 rfl rfl (.tmp 40) rfl (Lt.one4 ⟨last + 1, to, tx, false, 0⟩) rfl rfl ?_
        intro g1 W1 nw
        have HG1 := hidp nw.arr
        replace H := hidp (H.out.call nw.below)
        replace HO34 := hidp (HO34.out.to nw.below (Nat.le_refl _))
        clear nw
        refine ⟨by have := H.out.at1.cell 3 (by simp [dR]); simpa [dR] using this, ?_⟩
        simp only [Act.put, getElem_toArray, getElem_cons_zero, getElem_cons_succ, setIfInBounds_toArray, set_cons_zero, set_cons_succ]
        refine o_app1R ty1 rfl rfl (.tmp 34) (.tmp 41) rfl w.heap.size g1 v34 (ones L) (Lt.one4 ⟨last + 1, to, tx, false, 0⟩) rfl rfl HO34.out HG1.out (Lt.one41 _) rfl H.out.below.size (by rw [ones_len]; exact hlen1) ?_
        intro v42 _ ho hg
        replace H := hidp (grownM H.out HO34.out hg (Nat.le_refl _) (by intro x hx; simp at hx; rcases hx with rfl | rfl <;> exact (show 54 ≠ 92 from by decide)))
        have HO42 := hidp (show OwnR 92 4 _ w.heap.size v42 (ones (L ++ [⟨last + 1, to, tx, false, 0⟩])) from by rw [show ones (L ++ [⟨last + 1, to, tx, false, 0⟩]) = ones L ++ [Lt.one4 ⟨last + 1, to, tx, false, 0⟩] from by simp [ones]]; exact ho)
        clear ho hg HO34
        refine ⟨by have := H.out.at1.cell 3 (by simp [dR]); simpa [dR] using this, ?_⟩
        simp only [Act.put, getElem_toArray, getElem_cons_zero, getElem_cons_succ, setIfInBounds_toArray, set_cons_zero, set_cons_succ]
        apply s_val
        case ho | hw => rfl
        case hv => intro w hw; go_simp; first | done | rfl
        simp only [Act.put, getElem_toArray, getElem_cons_zero, getElem_cons_succ, setIfInBounds_toArray, set_cons_zero, set_cons_succ]
        refine o_putV rfl rfl 54 52 (.tmp 43) (.tmp 42) rfl b3 2 v42 rfl rfl (by kernel_rfl) (OwnR.oneC HO42.out) (dR room gap (.slice a n cv) (last + 1) lost) H.out.at1 (by simp [dR]) ?_
        intro Z ha hp
        have HAZ := hidp (show Arr Z b3 54 (dR room gap v42 (last + 1) lost) from ha); have HPZ := hidp hp
        clear ha hp
        refine ⟨by have := HAZ.out.cell 3 (by simp [dR]); simpa [dR] using this, ?_⟩
        simp only [Act.put, getElem_toArray, getElem_cons_zero, getElem_cons_succ, setIfInBounds_toArray, set_cons_zero, set_cons_succ]
        have HB42 := OwnR.stpR HO42.out HPZ.out H.out.at1 (by decide)
        replace H := hidp (H.out.put 1 b3 54 _ _ rfl HAZ.out HPZ.out)
        simp only [List.set_cons_succ, List.set_cons_zero] at H
        have HOZ := hidp HB42
        clear HB42
        refine NoPanic.normal ?_
        go_wp2_with fail
        refine regionQ (S := fun W => Arr W b3 54 (dR room gap v42 (last + 1) lost)) (.take 0 (.take 1 (.take 2 (.one 3 (.take 4 (.take 5 .done)))))) (by kernel_rfl) (by kernel_rfl) (by simp [Scr.depth]) (by kernel_rfl) H.out.drew.at1 ?_
        replace H := hidp H.out.drew
        replace HOZ := hidp (HOZ.out.to (Below.refl _ _).drew (Nat.le_refl _))
        refine Rt.s_get rtD rfl rfl (.tmp 3) rfl b3 (dR room gap v42 (last + 1) lost) rfl rfl (fun W h => h) ?_
        simp only [Act.put, getElem_toArray, getElem_cons_zero, getElem_cons_succ, setIfInBounds_toArray, set_cons_zero, set_cons_succ]
        apply s_val
        case ho | hw => rfl
        case hv => intro w hw; go_simp; first | done | rfl
        simp only [Act.put, getElem_toArray, getElem_cons_zero, getElem_cons_succ, setIfInBounds_toArray, set_cons_zero, set_cons_succ]
        refine Mm.s_ldc naI rfl rfl (.tmp 45) ⟨b3, 3, none⟩ (.int .i64 (last + 1)) rfl rfl (fun W h => h.cell 3 (by simp [dR])) ?_
        simp only [Act.put, getElem_toArray, getElem_cons_zero, getElem_cons_succ, setIfInBounds_toArray, set_cons_zero, set_cons_succ]
        refine Rt.o_put rtD rfl rfl (.tmp 6) (.tmp 44) rfl b6 (dR room gap v42 (last + 1) lost) rfl rfl rfl (dR_one (OwnR.oneC HOZ.out)) zD rfl H.out.at0 ?_
        intro Y ha st
        have HBY := hidp (OwnR.stpR HOZ.out st H.out.at0 (by decide))
        replace H := hidp (H.out.put 0 b6 54 _ _ rfl ha st)
        simp only [List.set_cons_zero] at H
        clear ha st
        refine ⟨H.out.at1, ?_⟩
        simp only [Act.put, getElem_toArray, getElem_cons_zero, getElem_cons_succ, setIfInBounds_toArray, set_cons_zero, set_cons_succ]
        apply s_val
        case ho | hw => rfl
        case hv => intro w hw; go_simp; first | done | rfl
        simp only [Act.put, getElem_toArray, getElem_cons_zero, getElem_cons_succ, setIfInBounds_toArray, set_cons_zero, set_cons_succ]
        apply s_val
        case ho | hw => rfl
        case hv => intro w hw; go_simp; first | done | rfl
        simp only [Act.put, getElem_toArray, getElem_cons_zero, getElem_cons_succ, setIfInBounds_toArray, set_cons_zero, set_cons_succ]
        refine NoPanic.normal ?_
        go_wp2_with fail
        refine bodyPost_ret (ret_row2 rtD Try.results25 _ b6 _ _ _ rfl rfl rfl H.out.at0 rfl) rfl ⟨v42, rfl, HBY.out, H.out.below⟩
      · refine o_bs1R ty1 rfl rfl (.tmp 40) rfl (Lt.one4 ⟨last + 1, to, tx, false, 0⟩) rfl rfl ?_
        intro g1 W1 nw
        have HG1 := hidp nw.arr
        replace H := hidp (H.out.call nw.below)
        replace HO0 := hidp (HO0.out.to nw.below (Nat.le_refl _))
        have hne := hidp (show g1 ≠ g0 from fun e => by have := HL0.out; have := nw.at_; omega)
        clear nw
        refine ⟨by have := H.out.at1.cell 3 (by simp [dR]); simpa [dR] using this, ?_⟩
        simp only [Act.put, getElem_toArray, getElem_cons_zero, getElem_cons_succ, setIfInBounds_toArray, set_cons_zero, set_cons_succ]
        refine o_appQ ty1 rfl rfl (.tmp 31) (.tmp 33) rfl w.heap.size _ (.slice a n cv) [] (ones L) rfl rfl HO0.out (HV.out.to H.out.below) (ones_one L) H.out.below.size (by rw [ones_len]; simpa using hlen) ?_
        intro v34 _ ho hg
        replace H := hidp (grownM H.out HO0.out hg (Nat.le_refl _) (by intro x hx; simp at hx; rcases hx with rfl | rfl <;> exact (show 54 ≠ 92 from by decide)))
        replace HG1 := hidp ((hg.block g1 HG1.out.lt (by simp only [Value.ownBlock, Option.map_some]; intro e; exact hne.out (Option.some.inj e))).trans HG1.out)
        have HO34 := hidp (show OwnR 92 4 _ w.heap.size v34 (ones L) from by simpa using ho)
        clear ho hg HO0
        refine ⟨by have := H.out.at1.cell 3 (by simp [dR]); simpa [dR] using this, ?_⟩
        simp only [Act.put, getElem_toArray, getElem_cons_zero, getElem_cons_succ, setIfInBounds_toArray, set_cons_zero, set_cons_succ]
        refine o_app1R ty1 rfl rfl (.tmp 34) (.tmp 41) rfl w.heap.size g1 v34 (ones L) (Lt.one4 ⟨last + 1, to, tx, false, 0⟩) rfl rfl HO34.out HG1.out (Lt.one41 _) rfl H.out.below.size (by rw [ones_len]; exact hlen1) ?_
        intro v42 _ ho hg
        replace H := hidp (grownM H.out HO34.out hg (Nat.le_refl _) (by intro x hx; simp at hx; rcases hx with rfl | rfl <;> exact (show 54 ≠ 92 from by decide)))
        have HO42 := hidp (show OwnR 92 4 _ w.heap.size v42 (ones (L ++ [⟨last + 1, to, tx, false, 0⟩])) from by rw [show ones (L ++ [⟨last + 1, to, tx, false, 0⟩]) = ones L ++ [Lt.one4 ⟨last + 1, to, tx, false, 0⟩] from by simp [ones]]; exact ho)
        clear ho hg HO34
        refine ⟨by have := H.out.at1.cell 3 (by simp [dR]); simpa [dR] using this, ?_⟩
        simp only [Act.put, getElem_toArray, getElem_cons_zero, getElem_cons_succ, setIfInBounds_toArray, set_cons_zero, set_cons_succ]
        apply s_val
        case ho | hw => rfl
        case hv => intro w hw; go_simp; first | done | rfl
        simp only [Act.put, getElem_toArray, getElem_cons_zero, getElem_cons_succ, setIfInBounds_toArray, set_cons_zero, set_cons_succ]
        refine o_putV rfl rfl 54 52 (.tmp 43) (.tmp 42) rfl b3 2 v42 rfl rfl (by kernel_rfl) (OwnR.oneC HO42.out) (dR room gap (.slice a n cv) (last + 1) lost) H.out.at1 (by simp [dR]) ?_
        intro Z ha hp
        have HAZ := hidp (show Arr Z b3 54 (dR room gap v42 (last + 1) lost) from ha); have HPZ := hidp hp
        clear ha hp
        refine ⟨by have := HAZ.out.cell 3 (by simp [dR]); simpa [dR] using this, ?_⟩
        simp only [Act.put, getElem_toArray, getElem_cons_zero, getElem_cons_succ, setIfInBounds_toArray, set_cons_zero, set_cons_succ]
        have HB42 := OwnR.stpR HO42.out HPZ.out H.out.at1 (by decide)
        replace H := hidp (H.out.put 1 b3 54 _ _ rfl HAZ.out HPZ.out)
        simp only [List.set_cons_succ, List.set_cons_zero] at H
        have HOZ := hidp HB42
        clear HB42
        refine NoPanic.normal ?_
        go_wp2_with fail
        refine regionQ (S := fun W => Arr W b3 54 (dR room gap v42 (last + 1) lost)) (.take 0 (.take 1 (.take 2 (.one 3 (.take 4 (.take 5 .done)))))) (by kernel_rfl) (by kernel_rfl) (by simp [Scr.depth]) (by kernel_rfl) H.out.drew.at1 ?_
        replace H := hidp H.out.drew
        replace HOZ := hidp (HOZ.out.to (Below.refl _ _).drew (Nat.le_refl _))
        refine Rt.s_get rtD rfl rfl (.tmp 3) rfl b3 (dR room gap v42 (last + 1) lost) rfl rfl (fun W h => h) ?_
        simp only [Act.put, getElem_toArray, getElem_cons_zero, getElem_cons_succ, setIfInBounds_toArray, set_cons_zero, set_cons_succ]
        apply s_val
        case ho | hw => rfl
        case hv => intro w hw; go_simp; first | done | rfl
        simp only [Act.put, getElem_toArray, getElem_cons_zero, getElem_cons_succ, setIfInBounds_toArray, set_cons_zero, set_cons_succ]
        refine Mm.s_ldc naI rfl rfl (.tmp 45) ⟨b3, 3, none⟩ (.int .i64 (last + 1)) rfl rfl (fun W h => h.cell 3 (by simp [dR])) ?_
        simp only [Act.put, getElem_toArray, getElem_cons_zero, getElem_cons_succ, setIfInBounds_toArray, set_cons_zero, set_cons_succ]
        refine Rt.o_put rtD rfl rfl (.tmp 6) (.tmp 44) rfl b6 (dR room gap v42 (last + 1) lost) rfl rfl rfl (dR_one (OwnR.oneC HOZ.out)) zD rfl H.out.at0 ?_
        intro Y ha st
        have HBY := hidp (OwnR.stpR HOZ.out st H.out.at0 (by decide))
        replace H := hidp (H.out.put 0 b6 54 _ _ rfl ha st)
        simp only [List.set_cons_zero] at H
        clear ha st
        refine ⟨H.out.at1, ?_⟩
        simp only [Act.put, getElem_toArray, getElem_cons_zero, getElem_cons_succ, setIfInBounds_toArray, set_cons_zero, set_cons_succ]
        apply s_val
        case ho | hw => rfl
        case hv => intro w hw; go_simp; first | done | rfl
        simp only [Act.put, getElem_toArray, getElem_cons_zero, getElem_cons_succ, setIfInBounds_toArray, set_cons_zero, set_cons_succ]
        apply s_val
        case ho | hw => rfl
        case hv => intro w hw; go_simp; first | done | rfl
        simp only [Act.put, getElem_toArray, getElem_cons_zero, getElem_cons_succ, setIfInBounds_toArray, set_cons_zero, set_cons_succ]
        refine NoPanic.normal ?_
        go_wp2_with fail
        refine bodyPost_ret (ret_row2 rtD Try.results25 _ b6 _ _ _ rfl rfl rfl H.out.at0 rfl) rfl ⟨v42, rfl, HBY.out, H.out.below⟩
    · refine o_bs1R ty1 rfl rfl (.tmp 40) rfl (Lt.one4 ⟨last + 1, to, tx, false, 0⟩) rfl rfl ?_
      intro g1 W1 nw
      have HG1 := hidp nw.arr
      replace H := hidp (H.out.call nw.below)
      replace HO0 := hidp (HO0.out.to nw.below (Nat.le_refl _))
      have hne := hidp (show g1 ≠ g0 from fun e => by have := HL0.out; have := nw.at_; omega)
      clear nw
      refine ⟨by have := H.out.at1.cell 3 (by simp [dR]); simpa [dR] using this, ?_⟩
      simp only [Act.put, getElem_toArray, getElem_cons_zero, getElem_cons_succ, setIfInBounds_toArray, set_cons_zero, set_cons_succ]
      refine o_ldc na1S rfl rfl (.tmp 32) ⟨b3, 2, none⟩ (.slice a n cv) rfl rfl (by have := H.out.at1.cell 2 (by simp [dR]); simpa [dR] using this) (by have := H.out.at1.cell 3 (by simp [dR]); simpa [dR] using this) ?_
      simp only [Act.put, getElem_toArray, getElem_cons_zero, getElem_cons_succ, setIfInBounds_toArray, set_cons_zero, set_cons_succ]
      refine o_appQ ty1 rfl rfl (.tmp 31) (.tmp 33) rfl w.heap.size _ (.slice a n cv) [] (ones L) rfl rfl HO0.out (HV.out.to H.out.below) (ones_one L) H.out.below.size (by rw [ones_len]; simpa using hlen) ?_
      intro v34 _ ho hg
      replace H := hidp (grownM H.out HO0.out hg (Nat.le_refl _) (by intro x hx; simp at hx; rcases hx with rfl | rfl <;> exact (show 54 ≠ 92 from by decide)))
      replace HG1 := hidp ((hg.block g1 HG1.out.lt (by simp only [Value.ownBlock, Option.map_some]; intro e; exact hne.out (Option.some.inj e))).trans HG1.out)
      have HO34 := hidp (show OwnR 92 4 _ w.heap.size v34 (ones L) from by simpa using ho)
      clear ho hg HO0
      refine ⟨by have := H.out.at1.cell 3 (by simp [dR]); simpa [dR] using this, ?_⟩
      simp only [Act.put, getElem_toArray, getElem_cons_zero, getElem_cons_succ, setIfInBounds_toArray, set_cons_zero, set_cons_succ]
      refine o_app1R ty1 rfl rfl (.tmp 34) (.tmp 41) rfl w.heap.size g1 v34 (ones L) (Lt.one4 ⟨last + 1, to, tx, false, 0⟩) rfl rfl HO34.out HG1.out (Lt.one41 _) rfl H.out.below.size (by rw [ones_len]; exact hlen1) ?_
      intro v42 _ ho hg
      replace H := hidp (grownM H.out HO34.out hg (Nat.le_refl _) (by intro x hx; simp at hx; rcases hx with rfl | rfl <;> exact (show 54 ≠ 92 from by decide)))
      have HO42 := hidp (show OwnR 92 4 _ w.heap.size v42 (ones (L ++ [⟨last + 1, to, tx, false, 0⟩])) from by rw [show ones (L ++ [⟨last + 1, to, tx, false, 0⟩]) = ones L ++ [Lt.one4 ⟨last + 1, to, tx, false, 0⟩] from by simp [ones]]; exact ho)
      clear ho hg HO34
      refine ⟨by have := H.out.at1.cell 3 (by simp [dR]); simpa [dR] using this, ?_⟩
      simp only [Act.put, getElem_toArray, getElem_cons_zero, getElem_cons_succ, setIfInBounds_toArray, set_cons_zero, set_cons_succ]
      apply s_val
      case ho | hw => rfl
      case hv => intro w hw; go_simp; first | done | rfl
      simp only [Act.put, getElem_toArray, getElem_cons_zero, getElem_cons_succ, setIfInBounds_toArray, set_cons_zero, set_cons_succ]
      refine o_putV rfl rfl 54 52 (.tmp 43) (.tmp 42) rfl b3 2 v42 rfl rfl (by kernel_rfl) (OwnR.oneC HO42.out) (dR room gap (.slice a n cv) (last + 1) lost) H.out.at1 (by simp [dR]) ?_
      intro Z ha hp
      have HAZ := hidp (show Arr Z b3 54 (dR room gap v42 (last + 1) lost) from ha); have HPZ := hidp hp
      clear ha hp
      refine ⟨by have := HAZ.out.cell 3 (by simp [dR]); simpa [dR] using this, ?_⟩
      simp only [Act.put, getElem_toArray, getElem_cons_zero, getElem_cons_succ, setIfInBounds_toArray, set_cons_zero, set_cons_succ]
      have HB42 := OwnR.stpR HO42.out HPZ.out H.out.at1 (by decide)
      replace H := hidp (H.out.put 1 b3 54 _ _ rfl HAZ.out HPZ.out)
      simp only [List.set_cons_succ, List.set_cons_zero] at H
      have HOZ := hidp HB42
      clear HB42
      refine NoPanic.normal ?_
      go_wp2_with fail
      refine regionQ (S := fun W => Arr W b3 54 (dR room gap v42 (last + 1) lost)) (.take 0 (.take 1 (.take 2 (.one 3 (.take 4 (.take 5 .done)))))) (by kernel_rfl) (by kernel_rfl) (by simp [Scr.depth]) (by kernel_rfl) H.out.drew.at1 ?_
      replace H := hidp H.out.drew
      replace HOZ := hidp (HOZ.out.to (Below.refl _ _).drew (Nat.le_refl _))
      refine Rt.s_get rtD rfl rfl (.tmp 3) rfl b3 (dR room gap v42 (last + 1) lost) rfl rfl (fun W h => h) ?_
      simp only [Act.put, getElem_toArray, getElem_cons_zero, getElem_cons_succ, setIfInBounds_toArray, set_cons_zero, set_cons_succ]
      apply s_val
      case ho | hw => rfl
      case hv => intro w hw; go_simp; first | done | rfl
      simp only [Act.put, getElem_toArray, getElem_cons_zero, getElem_cons_succ, setIfInBounds_toArray, set_cons_zero, set_cons_succ]
      refine Mm.s_ldc naI rfl rfl (.tmp 45) ⟨b3, 3, none⟩ (.int .i64 (last + 1)) rfl rfl (fun W h => h.cell 3 (by simp [dR])) ?_
      simp only [Act.put, getElem_toArray, getElem_cons_zero, getElem_cons_succ, setIfInBounds_toArray, set_cons_zero, set_cons_succ]
      refine Rt.o_put rtD rfl rfl (.tmp 6) (.tmp 44) rfl b6 (dR room gap v42 (last + 1) lost) rfl rfl rfl (dR_one (OwnR.oneC HOZ.out)) zD rfl H.out.at0 ?_
      intro Y ha st
      have HBY := hidp (OwnR.stpR HOZ.out st H.out.at0 (by decide))
      replace H := hidp (H.out.put 0 b6 54 _ _ rfl ha st)
      simp only [List.set_cons_zero] at H
      clear ha st
      refine ⟨H.out.at1, ?_⟩
      simp only [Act.put, getElem_toArray, getElem_cons_zero, getElem_cons_succ, setIfInBounds_toArray, set_cons_zero, set_cons_succ]
      apply s_val
      case ho | hw => rfl
      case hv => intro w hw; go_simp; first | done | rfl
      simp only [Act.put, getElem_toArray, getElem_cons_zero, getElem_cons_succ, setIfInBounds_toArray, set_cons_zero, set_cons_succ]
      apply s_val
      case ho | hw => rfl
      case hv => intro w hw; go_simp; first | done | rfl
      simp only [Act.put, getElem_toArray, getElem_cons_zero, getElem_cons_succ, setIfInBounds_toArray, set_cons_zero, set_cons_succ]
      refine NoPanic.normal ?_
      go_wp2_with fail
      refine bodyPost_ret (ret_row2 rtD Try.results25 _ b6 _ _ _ rfl rfl rfl H.out.at0 rfl) rfl ⟨v42, rfl, HBY.out, H.out.below⟩
  · refine o_ldc na1S rfl rfl (.tmp 32) ⟨b3, 2, none⟩ (.slice a n cv) rfl rfl (by have := H.out.at1.cell 2 (by simp [dR]); simpa [dR] using this) (by have := H.out.at1.cell 3 (by simp [dR]); simpa [dR] using this) ?_
    simp only [Act.put, getElem_toArray, getElem_cons_zero, getElem_cons_succ, setIfInBounds_toArray, set_cons_zero, set_cons_succ]
    refine ⟨?_, ?_⟩
    · refine o_bs0 ty1 rfl rfl rfl ?_
      intro g0 W0 nw
      have HO0 := hidp (OwnR.empty (k := 4) (B := w.heap.size) nw.arr (Nat.le_trans H.out.below.size nw.le))
      replace H := hidp (H.out.call nw.below)
      have HL0 := hidp nw.lt
      clear nw
      refine ⟨by have := H.out.at1.cell 3 (by simp [dR]); simpa [dR] using this, ?_⟩
      simp only [Act.put, getElem_toArray, getElem_cons_zero, getElem_cons_succ, setIfInBounds_toArray, set_cons_zero, set_cons_succ]
      refine ⟨?_, ?_⟩
      · refine o_appQ ty1 rfl rfl (.tmp 31) (.tmp 33) rfl w.heap.size _ (.slice a n cv) [] (ones L) rfl rfl HO0.out (HV.out.to H.out.below) (ones_one L) H.out.below.size (by rw [ones_len]; simpa using hlen) ?_
        intro v34 _ ho hg
        replace H := hidp (grownM H.out HO0.out hg (Nat.le_refl _) (by intro x hx; simp at hx; rcases hx with rfl | rfl <;> exact (show 54 ≠ 92 from by decide)))
        skip
        have HO34 := hidp (show OwnR 92 4 _ w.heap.size v34 (ones L) from by simpa using ho)
        clear ho hg HO0
        refine ⟨by have := H.out.at1.cell 3 (by simp [dR]); simpa [dR] using this, ?_⟩
        simp only [Act.put, getElem_toArray, getElem_cons_zero, getElem_cons_succ, setIfInBounds_toArray, set_cons_zero, set_cons_succ]
        refine o_bs1R ty1 rfl rfl (.tmp 40) rfl (Lt.one4 ⟨last + 1, to, tx, false, 0⟩) rfl rfl ?_
        intro g1 W1 nw
        have HG1 := hidp nw.arr
        replace H := hidp (H.out.call nw.below)
        replace HO34 := hidp (HO34.out.to nw.below (Nat.le_refl _))
        clear nw
        refine ⟨by have := H.out.at1.cell 3 (by simp [dR]); simpa [dR] using this, ?_⟩
        simp only [Act.put, getElem_toArray, getElem_cons_zero, getElem_cons_succ, setIfInBounds_toArray, set_cons_zero, set_cons_succ]
        refine o_app1R ty1 rfl rfl (.tmp 34) (.tmp 41) rfl w.heap.size g1 v34 (ones L) (Lt.one4 ⟨last + 1, to, tx, false, 0⟩) rfl rfl HO34.out HG1.out (Lt.one41 _) rfl H.out.below.size (by rw [ones_len]; exact hlen1) ?_
        intro v42 _ ho hg
        replace H := hidp (grownM H.out HO34.out hg (Nat.le_refl _) (by intro x hx; simp at hx; rcases hx with rfl | rfl <;> exact (show 54 ≠ 92 from by decide)))
        have HO42 := hidp (show OwnR 92 4 _ w.heap.size v42 (ones (L ++ [⟨last + 1, to, tx, false, 0⟩])) from by rw [show ones (L ++ [⟨last + 1, to, tx, false, 0⟩]) = ones L ++ [Lt.one4 ⟨last + 1, to, tx, false, 0⟩] from by simp [ones]]; exact ho)
        clear ho hg HO34
        refine ⟨by have := H.out.at1.cell 3 (by simp [dR]); simpa [dR] using this, ?_⟩
        simp only [Act.put, getElem_toArray, getElem_cons_zero, getElem_cons_succ, setIfInBounds_toArray, set_cons_zero, set_cons_succ]
        apply s_val
        case ho | hw => rfl
        case hv => intro w hw; go_simp; first | done | rfl
        simp only [Act.put, getElem_toArray, getElem_cons_zero, getElem_cons_succ, setIfInBounds_toArray, set_cons_zero, set_cons_succ]
        refine o_putV rfl rfl 54 52 (.tmp 43) (.tmp 42) rfl b3 2 v42 rfl rfl (by kernel_rfl) (OwnR.oneC HO42.out) (dR room gap (.slice a n cv) (last + 1) lost) H.out.at1 (by simp [dR]) ?_
        intro Z ha hp
        have HAZ := hidp (show Arr Z b3 54 (dR room gap v42 (last + 1) lost) from ha); have HPZ := hidp hp
        clear ha hp
        refine ⟨by have := HAZ.out.cell 3 (by simp [dR]); simpa [dR] using this, ?_⟩
        simp only [Act.put, getElem_toArray, getElem_cons_zero, getElem_cons_succ, setIfInBounds_toArray, set_cons_zero, set_cons_succ]
        have HB42 := OwnR.stpR HO42.out HPZ.out H.out.at1 (by decide)
        replace H := hidp (H.out.put 1 b3 54 _ _ rfl HAZ.out HPZ.out)
        simp only [List.set_cons_succ, List.set_cons_zero] at H
        have HOZ := hidp HB42
        clear HB42
        refine NoPanic.normal ?_
        go_wp2_with fail
        refine regionQ (S := fun W => Arr W b3 54 (dR room gap v42 (last + 1) lost)) (.take 0 (.take 1 (.take 2 (.one 3 (.take 4 (.take 5 .done)))))) (by kernel_rfl) (by kernel_rfl) (by simp [Scr.depth]) (by kernel_rfl) H.out.drew.at1 ?_
        replace H := hidp H.out.drew
        replace HOZ := hidp (HOZ.out.to (Below.refl _ _).drew (Nat.le_refl _))
        refine Rt.s_get rtD rfl rfl (.tmp 3) rfl b3 (dR room gap v42 (last + 1) lost) rfl rfl (fun W h => h) ?_
        simp only [Act.put, getElem_toArray, getElem_cons_zero, getElem_cons_succ, setIfInBounds_toArray, set_cons_zero, set_cons_succ]
        apply s_val
        case ho | hw => rfl
        case hv => intro w hw; go_simp; first | done | rfl
        simp only [Act.put, getElem_toArray, getElem_cons_zero, getElem_cons_succ, setIfInBounds_toArray, set_cons_zero, set_cons_succ]
        refine Mm.s_ldc naI rfl rfl (.tmp 45) ⟨b3, 3, none⟩ (.int .i64 (last + 1)) rfl rfl (fun W h => h.cell 3 (by simp [dR])) ?_
        simp only [Act.put, getElem_toArray, getElem_cons_zero, getElem_cons_succ, setIfInBounds_toArray, set_cons_zero, set_cons_succ]
        refine Rt.o_put rtD rfl rfl (.tmp 6) (.tmp 44) rfl b6 (dR room gap v42 (last + 1) lost) rfl rfl rfl (dR_one (OwnR.oneC HOZ.out)) zD rfl H.out.at0 ?_
        intro Y ha st
        have HBY := hidp (OwnR.stpR HOZ.out st H.out.at0 (by decide))
        replace H := hidp (H.out.put 0 b6 54 _ _ rfl ha st)
        simp only [List.set_cons_zero] at H
        clear ha st
        refine ⟨H.out.at1, ?_⟩
        simp only [Act.put, getElem_toArray, getElem_cons_zero, getElem_cons_succ, setIfInBounds_toArray, set_cons_zero, set_cons_succ]
        apply s_val
        case ho | hw => rfl
        case hv => intro w hw; go_simp; first | done | rfl
        simp only [Act.put, getElem_toArray, getElem_cons_zero, getElem_cons_succ, setIfInBounds_toArray, set_cons_zero, set_cons_succ]
        apply s_val
        case ho | hw => rfl
        case hv => intro w hw; go_simp; first | done | rfl
        simp only [Act.put, getElem_toArray, getElem_cons_zero, getElem_cons_succ, setIfInBounds_toArray, set_cons_zero, set_cons_succ]
        refine NoPanic.normal ?_
        go_wp2_with fail
        refine bodyPost_ret (ret_row2 rtD Try.results25 _ b6 _ _ _ rfl rfl rfl H.out.at0 rfl) rfl ⟨v42, rfl, HBY.out, H.out.below⟩
      · refine o_bs1R ty1 rfl rfl (.tmp 40) rfl (Lt.one4 ⟨last + 1, to, tx, false, 0⟩) rfl rfl ?_
        intro g1 W1 nw
        have HG1 := hidp nw.arr
        replace H := hidp (H.out.call nw.below)
        replace HO0 := hidp (HO0.out.to nw.below (Nat.le_refl _))
        have hne := hidp (show g1 ≠ g0 from fun e => by have := HL0.out; have := nw.at_; omega)
        clear nw
        refine ⟨by have := H.out.at1.cell 3 (by simp [dR]); simpa [dR] using this, ?_⟩
        simp only [Act.put, getElem_toArray, getElem_cons_zero, getElem_cons_succ, setIfInBounds_toArray, set_cons_zero, set_cons_succ]
        refine o_appQ ty1 rfl rfl (.tmp 31) (.tmp 33) rfl w.heap.size _ (.slice a n cv) [] (ones L) rfl rfl HO0.out (HV.out.to H.out.below) (ones_one L) H.out.below.size (by rw [ones_len]; simpa using hlen) ?_
        intro v34 _ ho hg
        replace H := hidp (grownM H.out HO0.out hg (Nat.le_refl _) (by intro x hx; simp at hx; rcases hx with rfl | rfl <;> exact (show 54 ≠ 92 from by decide)))
        replace HG1 := hidp ((hg.block g1 HG1.out.lt (by simp only [Value.ownBlock, Option.map_some]; intro e; exact hne.out (Option.some.inj e))).trans HG1.out)
        have HO34 := hidp (show OwnR 92 4 _ w.heap.size v34 (ones L) from by simpa using ho)
        clear ho hg HO0
        refine ⟨by have := H.out.at1.cell 3 (by simp [dR]); simpa [dR] using this, ?_⟩
        simp only [Act.put, getElem_toArray, getElem_cons_zero, getElem_cons_succ, setIfInBounds_toArray, set_cons_zero, set_cons_succ]
        refine o_app1R ty1 rfl rfl (.tmp 34) (.tmp 41) rfl w.heap.size g1 v34 (ones L) (Lt.one4 ⟨last + 1, to, tx, false, 0⟩) rfl rfl HO34.out HG1.out (Lt.one41 _) rfl H.out.below.size (by rw [ones_len]; exact hlen1) ?_
        intro v42 _ ho hg
        replace H := hidp (grownM H.out HO34.out hg (Nat.le_refl _) (by intro x hx; simp at hx; rcases hx with rfl | rfl <;> exact (show 54 ≠ 92 from by decide)))
        have HO42 := hidp (show OwnR 92 4 _ w.heap.size v42 (ones (L ++ [⟨last + 1, to, tx, false, 0⟩])) from by rw [show ones (L ++ [⟨last + 1, to, tx, false, 0⟩]) = ones L ++ [Lt.one4 ⟨last + 1, to, tx, false, 0⟩] from by simp [ones]]; exact ho)
        clear ho hg HO34
        refine ⟨by have := H.out.at1.cell 3 (by simp [dR]); simpa [dR] using this, ?_⟩
        simp only [Act.put, getElem_toArray, getElem_cons_zero, getElem_cons_succ, setIfInBounds_toArray, set_cons_zero, set_cons_succ]
        apply s_val
        case ho | hw => rfl
        case hv => intro w hw; go_simp; first | done | rfl
        simp only [Act.put, getElem_toArray, getElem_cons_zero, getElem_cons_succ, setIfInBounds_toArray, set_cons_zero, set_cons_succ]
        refine o_putV rfl rfl 54 52 (.tmp 43) (.tmp 42) rfl b3 2 v42 rfl rfl (by kernel_rfl) (OwnR.oneC HO42.out) (dR room gap (.slice a n cv) (last + 1) lost) H.out.at1 (by simp [dR]) ?_
        intro Z ha hp
        have HAZ := hidp (show Arr Z b3 54 (dR room gap v42 (last + 1) lost) from ha); have HPZ := hidp hp
        clear ha hp
        refine ⟨by have := HAZ.out.cell 3 (by simp [dR]); simpa [dR] using this, ?_⟩
        simp only [Act.put, getElem_toArray, getElem_cons_zero, getElem_cons_succ, setIfInBounds_toArray, set_cons_zero, set_cons_succ]
        have HB42 := OwnR.stpR HO42.out HPZ.out H.out.at1 (by decide)
        replace H := hidp (H.out.put 1 b3 54 _ _ rfl HAZ.out HPZ.out)
        simp only [List.set_cons_succ, List.set_cons_zero] at H
        have HOZ := hidp HB42
        clear HB42
        refine NoPanic.normal ?_
        go_wp2_with fail
        refine regionQ (S := fun W => Arr W b3 54 (dR room gap v42 (last + 1) lost)) (.take 0 (.take 1 (.take 2 (.one 3 (.take 4 (.take 5 .done)))))) (by kernel_rfl) (by kernel_rfl) (by simp [Scr.depth]) (by kernel_rfl) H.out.drew.at1 ?_
        replace H := hidp H.out.drew
        replace HOZ := hidp (HOZ.out.to (Below.refl _ _).drew (Nat.le_refl _))
        refine Rt.s_get rtD rfl rfl (.tmp 3) rfl b3 (dR room gap v42 (last + 1) lost) rfl rfl (fun W h => h) ?_
        simp only [Act.put, getElem_toArray, getElem_cons_zero, getElem_cons_succ, setIfInBounds_toArray, set_cons_zero, set_cons_succ]
        apply s_val
        case ho | hw => rfl
        case hv => intro w hw; go_simp; first | done | rfl
        simp only [Act.put, getElem_toArray, getElem_cons_zero, getElem_cons_succ, setIfInBounds_toArray, set_cons_zero, set_cons_succ]
        refine Mm.s_ldc naI rfl rfl (.tmp 45) ⟨b3, 3, none⟩ (.int .i64 (last + 1)) rfl rfl (fun W h => h.cell 3 (by simp [dR])) ?_
        simp only [Act.put, getElem_toArray, getElem_cons_zero, getElem_cons_succ, setIfInBounds_toArray, set_cons_zero, set_cons_succ]
        refine Rt.o_put rtD rfl rfl (.tmp 6) (.tmp 44) rfl b6 (dR room gap v42 (last + 1) lost) rfl rfl rfl (dR_one (OwnR.oneC HOZ.out)) zD rfl H.out.at0 ?_
        intro Y ha st
        have HBY := hidp (OwnR.stpR HOZ.out st H.out.at0 (by decide))
        replace H := hidp (H.out.put 0 b6 54 _ _ rfl ha st)
        simp only [List.set_cons_zero] at H
        clear ha st
        refine ⟨H.out.at1, ?_⟩
        simp only [Act.put, getElem_toArray, getElem_cons_zero, getElem_cons_succ, setIfInBounds_toArray, set_cons_zero, set_cons_succ]
        apply s_val
        case ho | hw => rfl
        case hv => intro w hw; go_simp; first | done | rfl
        simp only [Act.put, getElem_toArray, getElem_cons_zero, getElem_cons_succ, setIfInBounds_toArray, set_cons_zero, set_cons_succ]
        apply s_val
        case ho | hw => rfl
        case hv => intro w hw; go_simp; first | done | rfl
        simp only [Act.put, getElem_toArray, getElem_cons_zero, getElem_cons_succ, setIfInBounds_toArray, set_cons_zero, set_cons_succ]
        refine NoPanic.normal ?_
        go_wp2_with fail
        refine bodyPost_ret (ret_row2 rtD Try.results25 _ b6 _ _ _ rfl rfl rfl H.out.at0 rfl) rfl ⟨v42, rfl, HBY.out, H.out.below⟩
    · refine o_bs1R ty1 rfl rfl (.tmp 40) rfl (Lt.one4 ⟨last + 1, to, tx, false, 0⟩) rfl rfl ?_
      intro g1 W1 nw
      have HG1 := hidp nw.arr
      replace H := hidp (H.out.call nw.below)
      skip
      clear nw
      refine ⟨by have := H.out.at1.cell 3 (by simp [dR]); simpa [dR] using this, ?_⟩
      simp only [Act.put, getElem_toArray, getElem_cons_zero, getElem_cons_succ, setIfInBounds_toArray, set_cons_zero, set_cons_succ]
      refine o_bs0 ty1 rfl rfl rfl ?_
      intro g0 W0 nw
      have HO0 := hidp (OwnR.empty (k := 4) (B := w.heap.size) nw.arr (Nat.le_trans H.out.below.size nw.le))
      replace H := hidp (H.out.call nw.below)
      have hne := hidp (show g1 ≠ g0 from fun e => by have := HG1.out.lt; have := nw.at_; omega)
      replace HG1 := hidp (HG1.out.below nw.below HG1.out.lt)
      clear nw
      refine ⟨by have := H.out.at1.cell 3 (by simp [dR]); simpa [dR] using this, ?_⟩
      simp only [Act.put, getElem_toArray, getElem_cons_zero, getElem_cons_succ, setIfInBounds_toArray, set_cons_zero, set_cons_succ]
      refine o_appQ ty1 rfl rfl (.tmp 31) (.tmp 33) rfl w.heap.size _ (.slice a n cv) [] (ones L) rfl rfl HO0.out (HV.out.to H.out.below) (ones_one L) H.out.below.size (by rw [ones_len]; simpa using hlen) ?_
      intro v34 _ ho hg
      replace H := hidp (grownM H.out HO0.out hg (Nat.le_refl _) (by intro x hx; simp at hx; rcases hx with rfl | rfl <;> exact (show 54 ≠ 92 from by decide)))
      replace HG1 := hidp ((hg.block g1 HG1.out.lt (by simp only [Value.ownBlock, Option.map_some]; intro e; exact hne.out (Option.some.inj e))).trans HG1.out)
      have HO34 := hidp (show OwnR 92 4 _ w.heap.size v34 (ones L) from by simpa using ho)
      clear ho hg HO0
      refine ⟨by have := H.out.at1.cell 3 (by simp [dR]); simpa [dR] using this, ?_⟩
      simp only [Act.put, getElem_toArray, getElem_cons_zero, getElem_cons_succ, setIfInBounds_toArray, set_cons_zero, set_cons_succ]
      refine o_app1R ty1 rfl rfl (.tmp 34) (.tmp 41) rfl w.heap.size g1 v34 (ones L) (Lt.one4 ⟨last + 1, to, tx, false, 0⟩) rfl rfl HO34.out HG1.out (Lt.one41 _) rfl H.out.below.size (by rw [ones_len]; exact hlen1) ?_
      intro v42 _ ho hg
      replace H := hidp (grownM H.out HO34.out hg (Nat.le_refl _) (by intro x hx; simp at hx; rcases hx with rfl | rfl <;> exact (show 54 ≠ 92 from by decide)))
      have HO42 := hidp (show OwnR 92 4 _ w.heap.size v42 (ones (L ++ [⟨last + 1, to, tx, false, 0⟩])) from by rw [show ones (L ++ [⟨last + 1, to, tx, false, 0⟩]) = ones L ++ [Lt.one4 ⟨last + 1, to, tx, false, 0⟩] from by simp [ones]]; exact ho)
      clear ho hg HO34
      refine ⟨by have := H.out.at1.cell 3 (by simp [dR]); simpa [dR] using this, ?_⟩
      simp only [Act.put, getElem_toArray, getElem_cons_zero, getElem_cons_succ, setIfInBounds_toArray, set_cons_zero, set_cons_succ]
      apply s_val
      case ho | hw => rfl
      case hv => intro w hw; go_simp; first | done | rfl
      simp only [Act.put, getElem_toArray, getElem_cons_zero, getElem_cons_succ, setIfInBounds_toArray, set_cons_zero, set_cons_succ]
      refine o_putV rfl rfl 54 52 (.tmp 43) (.tmp 42) rfl b3 2 v42 rfl rfl (by kernel_rfl) (OwnR.oneC HO42.out) (dR room gap (.slice a n cv) (last + 1) lost) H.out.at1 (by simp [dR]) ?_
      intro Z ha hp
      have HAZ := hidp (show Arr Z b3 54 (dR room gap v42 (last + 1) lost) from ha); have HPZ := hidp hp
      clear ha hp
      refine ⟨by have := HAZ.out.cell 3 (by simp [dR]); simpa [dR] using this, ?_⟩
      simp only [Act.put, getElem_toArray, getElem_cons_zero, getElem_cons_succ, setIfInBounds_toArray, set_cons_zero, set_cons_succ]
      have HB42 := OwnR.stpR HO42.out HPZ.out H.out.at1 (by decide)
      replace H := hidp (H.out.put 1 b3 54 _ _ rfl HAZ.out HPZ.out)
      simp only [List.set_cons_succ, List.set_cons_zero] at H
      have HOZ := hidp HB42
      clear HB42
      refine NoPanic.normal ?_
      go_wp2_with fail
      refine regionQ (S := fun W => Arr W b3 54 (dR room gap v42 (last + 1) lost)) (.take 0 (.take 1 (.take 2 (.one 3 (.take 4 (.take 5 .done)))))) (by kernel_rfl) (by kernel_rfl) (by simp [Scr.depth]) (by kernel_rfl) H.out.drew.at1 ?_
      replace H := hidp H.out.drew
      replace HOZ := hidp (HOZ.out.to (Below.refl _ _).drew (Nat.le_refl _))
      refine Rt.s_get rtD rfl rfl (.tmp 3) rfl b3 (dR room gap v42 (last + 1) lost) rfl rfl (fun W h => h) ?_
      simp only [Act.put, getElem_toArray, getElem_cons_zero, getElem_cons_succ, setIfInBounds_toArray, set_cons_zero, set_cons_succ]
      apply s_val
      case ho | hw => rfl
      case hv => intro w hw; go_simp; first | done | rfl
      simp only [Act.put, getElem_toArray, getElem_cons_zero, getElem_cons_succ, setIfInBounds_toArray, set_cons_zero, set_cons_succ]
      refine Mm.s_ldc naI rfl rfl (.tmp 45) ⟨b3, 3, none⟩ (.int .i64 (last + 1)) rfl rfl (fun W h => h.cell 3 (by simp [dR])) ?_
      simp only [Act.put, getElem_toArray, getElem_cons_zero, getElem_cons_succ, setIfInBounds_toArray, set_cons_zero, set_cons_succ]
      refine Rt.o_put rtD rfl rfl (.tmp 6) (.tmp 44) rfl b6 (dR room gap v42 (last + 1) lost) rfl rfl rfl (dR_one (OwnR.oneC HOZ.out)) zD rfl H.out.at0 ?_
      intro Y ha st
      have HBY := hidp (OwnR.stpR HOZ.out st H.out.at0 (by decide))
      replace H := hidp (H.out.put 0 b6 54 _ _ rfl ha st)
      simp only [List.set_cons_zero] at H
      clear ha st
      refine ⟨H.out.at1, ?_⟩
      simp only [Act.put, getElem_toArray, getElem_cons_zero, getElem_cons_succ, setIfInBounds_toArray, set_cons_zero, set_cons_succ]
      apply s_val
      case ho | hw => rfl
      case hv => intro w hw; go_simp; first | done | rfl
      simp only [Act.put, getElem_toArray, getElem_cons_zero, getElem_cons_succ, setIfInBounds_toArray, set_cons_zero, set_cons_succ]
      apply s_val
      case ho | hw => rfl
      case hv => intro w hw; go_simp; first | done | rfl
      simp only [Act.put, getElem_toArray, getElem_cons_zero, getElem_cons_succ, setIfInBounds_toArray, set_cons_zero, set_cons_succ]
      refine NoPanic.normal ?_
      go_wp2_with fail
      refine bodyPost_ret (ret_row2 rtD Try.results25 _ b6 _ _ _ rfl rfl rfl H.out.at0 rfl) rfl ⟨v42, rfl, HBY.out, H.out.below⟩
  · refine o_bs1R ty1 rfl rfl (.tmp 40) rfl (Lt.one4 ⟨last + 1, to, tx, false, 0⟩) rfl rfl ?_
    intro g1 W1 nw
    have HG1 := hidp nw.arr
    replace H := hidp (H.out.call nw.below)
    skip
    clear nw
    refine ⟨by have := H.out.at1.cell 3 (by simp [dR]); simpa [dR] using this, ?_⟩
    simp only [Act.put, getElem_toArray, getElem_cons_zero, getElem_cons_succ, setIfInBounds_toArray, set_cons_zero, set_cons_succ]
    refine ⟨?_, ?_⟩
    · refine o_bs0 ty1 rfl rfl rfl ?_
      intro g0 W0 nw
      have HO0 := hidp (OwnR.empty (k := 4) (B := w.heap.size) nw.arr (Nat.le_trans H.out.below.size nw.le))
      replace H := hidp (H.out.call nw.below)
      have hne := hidp (show g1 ≠ g0 from fun e => by have := HG1.out.lt; have := nw.at_; omega)
      replace HG1 := hidp (HG1.out.below nw.below HG1.out.lt)
      clear nw
      refine ⟨by have := H.out.at1.cell 3 (by simp [dR]); simpa [dR] using this, ?_⟩
      simp only [Act.put, getElem_toArray, getElem_cons_zero, getElem_cons_succ, setIfInBounds_toArray, set_cons_zero, set_cons_succ]
      refine o_ldc na1S rfl rfl (.tmp 32) ⟨b3, 2, none⟩ (.slice a n cv) rfl rfl (by have := H.out.at1.cell 2 (by simp [dR]); simpa [dR] using this) (by have := H.out.at1.cell 3 (by simp [dR]); simpa [dR] using this) ?_
      simp only [Act.put, getElem_toArray, getElem_cons_zero, getElem_cons_succ, setIfInBounds_toArray, set_cons_zero, set_cons_succ]
      refine o_appQ ty1 rfl rfl (.tmp 31) (.tmp 33) rfl w.heap.size _ (.slice a n cv) [] (ones L) rfl rfl HO0.out (HV.out.to H.out.below) (ones_one L) H.out.below.size (by rw [ones_len]; simpa using hlen) ?_
      intro v34 _ ho hg
      replace H := hidp (grownM H.out HO0.out hg (Nat.le_refl _) (by intro x hx; simp at hx; rcases hx with rfl | rfl <;> exact (show 54 ≠ 92 from by decide)))
      replace HG1 := hidp ((hg.block g1 HG1.out.lt (by simp only [Value.ownBlock, Option.map_some]; intro e; exact hne.out (Option.some.inj e))).trans HG1.out)
      have HO34 := hidp (show OwnR 92 4 _ w.heap.size v34 (ones L) from by simpa using ho)
      clear ho hg HO0
      refine ⟨by have := H.out.at1.cell 3 (by simp [dR]); simpa [dR] using this, ?_⟩
      simp only [Act.put, getElem_toArray, getElem_cons_zero, getElem_cons_succ, setIfInBounds_toArray, set_cons_zero, set_cons_succ]
      refine o_app1R ty1 rfl rfl (.tmp 34) (.tmp 41) rfl w.heap.size g1 v34 (ones L) (Lt.one4 ⟨last + 1, to, tx, false, 0⟩) rfl rfl HO34.out HG1.out (Lt.one41 _) rfl H.out.below.size (by rw [ones_len]; exact hlen1) ?_
      intro v42 _ ho hg
      replace H := hidp (grownM H.out HO34.out hg (Nat.le_refl _) (by intro x hx; simp at hx; rcases hx with rfl | rfl <;> exact (show 54 ≠ 92 from by decide)))
      have HO42 := hidp (show OwnR 92 4 _ w.heap.size v42 (ones (L ++ [⟨last + 1, to, tx, false, 0⟩])) from by rw [show ones (L ++ [⟨last + 1, to, tx, false, 0⟩]) = ones L ++ [Lt.one4 ⟨last + 1, to, tx, false, 0⟩] from by simp [ones]]; exact ho)
      clear ho hg HO34
      refine ⟨by have := H.out.at1.cell 3 (by simp [dR]); simpa [dR] using this, ?_⟩
      simp only [Act.put, getElem_toArray, getElem_cons_zero, getElem_cons_succ, setIfInBounds_toArray, set_cons_zero, set_cons_succ]
      apply s_val
      case ho | hw => rfl
      case hv => intro w hw; go_simp; first | done | rfl
      simp only [Act.put, getElem_toArray, getElem_cons_zero, getElem_cons_succ, setIfInBounds_toArray, set_cons_zero, set_cons_succ]
      refine o_putV rfl rfl 54 52 (.tmp 43) (.tmp 42) rfl b3 2 v42 rfl rfl (by kernel_rfl) (OwnR.oneC HO42.out) (dR room gap (.slice a n cv) (last + 1) lost) H.out.at1 (by simp [dR]) ?_
      intro Z ha hp
      have HAZ := hidp (show Arr Z b3 54 (dR room gap v42 (last + 1) lost) from ha); have HPZ := hidp hp
      clear ha hp
      refine ⟨by have := HAZ.out.cell 3 (by simp [dR]); simpa [dR] using this, ?_⟩
      simp only [Act.put, getElem_toArray, getElem_cons_zero, getElem_cons_succ, setIfInBounds_toArray, set_cons_zero, set_cons_succ]
      have HB42 := OwnR.stpR HO42.out HPZ.out H.out.at1 (by decide)
      replace H := hidp (H.out.put 1 b3 54 _ _ rfl HAZ.out HPZ.out)
      simp only [List.set_cons_succ, List.set_cons_zero] at H
      have HOZ := hidp HB42
      clear HB42
      refine NoPanic.normal ?_
      go_wp2_with fail
      refine regionQ (S := fun W => Arr W b3 54 (dR room gap v42 (last + 1) lost)) (.take 0 (.take 1 (.take 2 (.one 3 (.take 4 (.take 5 .done)))))) (by kernel_rfl) (by kernel_rfl) (by simp [Scr.depth]) (by kernel_rfl) H.out.drew.at1 ?_
      replace H := hidp H.out.drew
      replace HOZ := hidp (HOZ.out.to (Below.refl _ _).drew (Nat.le_refl _))
      refine Rt.s_get rtD rfl rfl (.tmp 3) rfl b3 (dR room gap v42 (last + 1) lost) rfl rfl (fun W h => h) ?_
      simp only [Act.put, getElem_toArray, getElem_cons_zero, getElem_cons_succ, setIfInBounds_toArray, set_cons_zero, set_cons_succ]
      apply s_val
      case ho | hw => rfl
      case hv => intro w hw; go_simp; first | done | rfl
      simp only [Act.put, getElem_toArray, getElem_cons_zero, getElem_cons_succ, setIfInBounds_toArray, set_cons_zero, set_cons_succ]
      refine Mm.s_ldc naI rfl rfl (.tmp 45) ⟨b3, 3, none⟩ (.int .i64 (last + 1)) rfl rfl (fun W h => h.cell 3 (by simp [dR])) ?_
      simp only [Act.put, getElem_toArray, getElem_cons_zero, getElem_cons_succ, setIfInBounds_toArray, set_cons_zero, set_cons_succ]
      refine Rt.o_put rtD rfl rfl (.tmp 6) (.tmp 44) rfl b6 (dR room gap v42 (last + 1) lost) rfl rfl rfl (dR_one (OwnR.oneC HOZ.out)) zD rfl H.out.at0 ?_
      intro Y ha st
      have HBY := hidp (OwnR.stpR HOZ.out st H.out.at0 (by decide))
      replace H := hidp (H.out.put 0 b6 54 _ _ rfl ha st)
      simp only [List.set_cons_zero] at H
      clear ha st
      refine ⟨H.out.at1, ?_⟩
      simp only [Act.put, getElem_toArray, getElem_cons_zero, getElem_cons_succ, setIfInBounds_toArray, set_cons_zero, set_cons_succ]
      apply s_val
      case ho | hw => rfl
      case hv => intro w hw; go_simp; first | done | rfl
      simp only [Act.put, getElem_toArray, getElem_cons_zero, getElem_cons_succ, setIfInBounds_toArray, set_cons_zero, set_cons_succ]
      apply s_val
      case ho | hw => rfl
      case hv => intro w hw; go_simp; first | done | rfl
      simp only [Act.put, getElem_toArray, getElem_cons_zero, getElem_cons_succ, setIfInBounds_toArray, set_cons_zero, set_cons_succ]
      refine NoPanic.normal ?_
      go_wp2_with fail
      refine bodyPost_ret (ret_row2 rtD Try.results25 _ b6 _ _ _ rfl rfl rfl H.out.at0 rfl) rfl ⟨v42, rfl, HBY.out, H.out.below⟩
    · refine o_ldc na1S rfl rfl (.tmp 32) ⟨b3, 2, none⟩ (.slice a n cv) rfl rfl (by have := H.out.at1.cell 2 (by simp [dR]); simpa [dR] using this) (by have := H.out.at1.cell 3 (by simp [dR]); simpa [dR] using this) ?_
      simp only [Act.put, getElem_toArray, getElem_cons_zero, getElem_cons_succ, setIfInBounds_toArray, set_cons_zero, set_cons_succ]
      refine o_bs0 ty1 rfl rfl rfl ?_
      intro g0 W0 nw
      have HO0 := hidp (OwnR.empty (k := 4) (B := w.heap.size) nw.arr (Nat.le_trans H.out.below.size nw.le))
      replace H := hidp (H.out.call nw.below)
      have hne := hidp (show g1 ≠ g0 from fun e => by have := HG1.out.lt; have := nw.at_; omega)
      replace HG1 := hidp (HG1.out.below nw.below HG1.out.lt)
      clear nw
      refine ⟨by have := H.out.at1.cell 3 (by simp [dR]); simpa [dR] using this, ?_⟩
      simp only [Act.put, getElem_toArray, getElem_cons_zero, getElem_cons_succ, setIfInBounds_toArray, set_cons_zero, set_cons_succ]
      refine o_appQ ty1 rfl rfl (.tmp 31) (.tmp 33) rfl w.heap.size _ (.slice a n cv) [] (ones L) rfl rfl HO0.out (HV.out.to H.out.below) (ones_one L) H.out.below.size (by rw [ones_len]; simpa using hlen) ?_
      intro v34 _ ho hg
      replace H := hidp (grownM H.out HO0.out hg (Nat.le_refl _) (by intro x hx; simp at hx; rcases hx with rfl | rfl <;> exact (show 54 ≠ 92 from by decide)))
      replace HG1 := hidp ((hg.block g1 HG1.out.lt (by simp only [Value.ownBlock, Option.map_some]; intro e; exact hne.out (Option.some.inj e))).trans HG1.out)
      have HO34 := hidp (show OwnR 92 4 _ w.heap.size v34 (ones L) from by simpa using ho)
      clear ho hg HO0
      refine ⟨by have := H.out.at1.cell 3 (by simp [dR]); simpa [dR] using this, ?_⟩
      simp only [Act.put, getElem_toArray, getElem_cons_zero, getElem_cons_succ, setIfInBounds_toArray, set_cons_zero, set_cons_succ]
      refine o_app1R ty1 rfl rfl (.tmp 34) (.tmp 41) rfl w.heap.size g1 v34 (ones L) (Lt.one4 ⟨last + 1, to, tx, false, 0⟩) rfl rfl HO34.out HG1.out (Lt.one41 _) rfl H.out.below.size (by rw [ones_len]; exact hlen1) ?_
      intro v42 _ ho hg
      replace H := hidp (grownM H.out HO34.out hg (Nat.le_refl _) (by intro x hx; simp at hx; rcases hx with rfl | rfl <;> exact (show 54 ≠ 92 from by decide)))
      have HO42 := hidp (show OwnR 92 4 _ w.heap.size v42 (ones (L ++ [⟨last + 1, to, tx, false, 0⟩])) from by rw [show ones (L ++ [⟨last + 1, to, tx, false, 0⟩]) = ones L ++ [Lt.one4 ⟨last + 1, to, tx, false, 0⟩] from by simp [ones]]; exact ho)
      clear ho hg HO34
      refine ⟨by have := H.out.at1.cell 3 (by simp [dR]); simpa [dR] using this, ?_⟩
      simp only [Act.put, getElem_toArray, getElem_cons_zero, getElem_cons_succ, setIfInBounds_toArray, set_cons_zero, set_cons_succ]
      apply s_val
      case ho | hw => rfl
      case hv => intro w hw; go_simp; first | done | rfl
      simp only [Act.put, getElem_toArray, getElem_cons_zero, getElem_cons_succ, setIfInBounds_toArray, set_cons_zero, set_cons_succ]
      refine o_putV rfl rfl 54 52 (.tmp 43) (.tmp 42) rfl b3 2 v42 rfl rfl (by kernel_rfl) (OwnR.oneC HO42.out) (dR room gap (.slice a n cv) (last + 1) lost) H.out.at1 (by simp [dR]) ?_
      intro Z ha hp
      have HAZ := hidp (show Arr Z b3 54 (dR room gap v42 (last + 1) lost) from ha); have HPZ := hidp hp
      clear ha hp
      refine ⟨by have := HAZ.out.cell 3 (by simp [dR]); simpa [dR] using this, ?_⟩
      simp only [Act.put, getElem_toArray, getElem_cons_zero, getElem_cons_succ, setIfInBounds_toArray, set_cons_zero, set_cons_succ]
      have HB42 := OwnR.stpR HO42.out HPZ.out H.out.at1 (by decide)
      replace H := hidp (H.out.put 1 b3 54 _ _ rfl HAZ.out HPZ.out)
      simp only [List.set_cons_succ, List.set_cons_zero] at H
      have HOZ := hidp HB42
      clear HB42
      refine NoPanic.normal ?_
      go_wp2_with fail
      refine regionQ (S := fun W => Arr W b3 54 (dR room gap v42 (last + 1) lost)) (.take 0 (.take 1 (.take 2 (.one 3 (.take 4 (.take 5 .done)))))) (by kernel_rfl) (by kernel_rfl) (by simp [Scr.depth]) (by kernel_rfl) H.out.drew.at1 ?_
      replace H := hidp H.out.drew
      replace HOZ := hidp (HOZ.out.to (Below.refl _ _).drew (Nat.le_refl _))
      refine Rt.s_get rtD rfl rfl (.tmp 3) rfl b3 (dR room gap v42 (last + 1) lost) rfl rfl (fun W h => h) ?_
      simp only [Act.put, getElem_toArray, getElem_cons_zero, getElem_cons_succ, setIfInBounds_toArray, set_cons_zero, set_cons_succ]
      apply s_val
      case ho | hw => rfl
      case hv => intro w hw; go_simp; first | done | rfl
      simp only [Act.put, getElem_toArray, getElem_cons_zero, getElem_cons_succ, setIfInBounds_toArray, set_cons_zero, set_cons_succ]
      refine Mm.s_ldc naI rfl rfl (.tmp 45) ⟨b3, 3, none⟩ (.int .i64 (last + 1)) rfl rfl (fun W h => h.cell 3 (by simp [dR])) ?_
      simp only [Act.put, getElem_toArray, getElem_cons_zero, getElem_cons_succ, setIfInBounds_toArray, set_cons_zero, set_cons_succ]
      refine Rt.o_put rtD rfl rfl (.tmp 6) (.tmp 44) rfl b6 (dR room gap v42 (last + 1) lost) rfl rfl rfl (dR_one (OwnR.oneC HOZ.out)) zD rfl H.out.at0 ?_
      intro Y ha st
      have HBY := hidp (OwnR.stpR HOZ.out st H.out.at0 (by decide))
      replace H := hidp (H.out.put 0 b6 54 _ _ rfl ha st)
      simp only [List.set_cons_zero] at H
      clear ha st
      refine ⟨H.out.at1, ?_⟩
      simp only [Act.put, getElem_toArray, getElem_cons_zero, getElem_cons_succ, setIfInBounds_toArray, set_cons_zero, set_cons_succ]
      apply s_val
      case ho | hw => rfl
      case hv => intro w hw; go_simp; first | done | rfl
      simp only [Act.put, getElem_toArray, getElem_cons_zero, getElem_cons_succ, setIfInBounds_toArray, set_cons_zero, set_cons_succ]
      apply s_val
      case ho | hw => rfl
      case hv => intro w hw; go_simp; first | done | rfl
      simp only [Act.put, getElem_toArray, getElem_cons_zero, getElem_cons_succ, setIfInBounds_toArray, set_cons_zero, set_cons_succ]
      refine NoPanic.normal ?_
      go_wp2_with fail
      refine bodyPost_ret (ret_row2 rtD Try.results25 _ b6 _ _ _ rfl rfl rfl H.out.at0 rfl) rfl ⟨v42, rfl, HBY.out, H.out.below⟩

end Go.Proofs.Ytokakgjcegmabaa.Po
