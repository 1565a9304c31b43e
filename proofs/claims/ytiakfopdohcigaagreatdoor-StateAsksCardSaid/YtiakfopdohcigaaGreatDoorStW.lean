
/-
  state: the document's Get, Keys, Member.
-/
import Derived.Test.YtiakfopdohcigaaGreatDoorStU
import Derived.Test.YtiakfopdohcigaaGreatDoorStQ
namespace Go.Proofs.YtiakfopdohcigaaGreatDoor
set_option maxRecDepth 100000
set_option linter.unusedVariables false
set_option linter.unusedSimpArgs false
open Go.RowKit Rw
open List (getElem_toArray getElem_cons_zero getElem_cons_succ setIfInBounds_toArray set_cons_zero set_cons_succ)


set_option maxHeartbeats 16000000 in
theorem rget_any (w : World) (v : Value) (cs : List Ce) (hv : CsAt w v cs) (k : Nat) (y : ByteArray) :
    Calls Tryz.prog 10 #[v, .int .u8 (k : Int), .string y] w fun x w' => x = .returned (.tuple #[.agg (geV cs k y).row.toArray, .int .i64 (geE cs k y)]) ∧ Below w.heap.size w w' := by
  have HV := hidp hv; clear hv
  have ck := hidp (fun W h => rstCheck_any W v cs h)
  obtain ⟨av, cv0, rfl⟩ := HV.out.form
  have h47 := HV.out.len
  obtain ⟨n, hn⟩ : ∃ n, cs.length = n := ⟨_, rfl⟩
  have HN := hidp hn
  rw [hn] at HV h47 ck ⊢
  clear hn
  have H := hidp (Mm.M.nil w)
  cases hok : okS cs with
  | false =>
    rw [show ckS cs = 2 from if_neg (by rw [hok]; exact Bool.false_ne_true)] at ck
    have HGV := hidp (show geV cs k y = zEv from by unfold geV; rw [hok]; rfl); have HGE := hidp (show geE cs k y = 2 from by unfold geE; rw [hok]; rfl)
    clear hok
    go_enter Tryz.func10, Tryz.ntmps10
    have tk0 := hidp trivial
    go_wp2_with (first | (clear tk0; (refine Mm.new rtE H (some 6) rfl rfl rfl ?_; clear H; intro b6 _ H nw; have hb := nw.below; clear hb nw); (try simp only [Act.put, setIfInBounds_toArray, set_cons_zero, set_cons_succ]); have tk1 := hidp trivial) | (clear tk1; (go_at_call 56; refine (ck.out _ (HV.out.to H.out.below)).mono ?_; rintro e _ ⟨rfl, hb⟩; replace H := hidp (H.out.call hb); clear ck; clear hb); (try simp only [Act.put, setIfInBounds_toArray, set_cons_zero, set_cons_succ]); have tk2 := hidp trivial) | (clear tk2; (refine Rt.wpL_build rfl 25 _ rfl zE (by kernel_rfl) ?_); (try simp only [Act.put, setIfInBounds_toArray, set_cons_zero, set_cons_succ]); have tk3 := hidp trivial) | (clear tk3; (refine Mm.put0 rtE H rfl (.tmp 6) (.tmp 13) zE rfl rfl rfl rfl (by simp [zE, Value.oneCell']) rfl ?_; intro _ H2 st; clear st H; have H := H2; clear H2); (try simp only [Act.put, setIfInBounds_toArray, set_cons_zero, set_cons_succ]); have tk4 := hidp trivial))
    try clear tk4
    refine bodyPost_ret (Mm.ret_rowv rtE Tryz.results10 _ b6 _ _ rfl rfl H.out.at0 rfl) rfl ⟨by rw [HGV.out, HGE.out]; rfl, H.out.below⟩
  | true =>
    rw [show ckS cs = 0 from if_pos hok] at ck
    have HOK := hidp hok
    clear hok
    go_enter Tryz.func10, Tryz.ntmps10
    have tk0 := hidp trivial
    go_wp2_with (first | (clear tk0; (refine Mm.new rtE H (some 6) rfl rfl rfl ?_; clear H; intro b6 _ H nw; have hb := nw.below; clear hb nw); (try simp only [Act.put, setIfInBounds_toArray, set_cons_zero, set_cons_succ]); have tk1 := hidp trivial) | (clear tk1; (go_at_call 56; refine (ck.out _ (HV.out.to H.out.below)).mono ?_; rintro e _ ⟨rfl, hb⟩; replace H := hidp (H.out.call hb); clear ck; clear hb); (try simp only [Act.put, setIfInBounds_toArray, set_cons_zero, set_cons_succ]); have tk2 := hidp trivial))
    try clear tk2
    go_loopw [16] (fun t16 wr => ∃ i : Nat, t16 = .int .i64 (i : Int) ∧ i ≤ n ∧ (cs.take i).all (fun c => !isC k y c) = true ∧ Mm.M w.heap.size w wr [⟨b6, 25, zE⟩]) (fun t16 _ => n - (intOf t16).toNat)
    case atStart => exact ⟨0, rfl, by omega, rfl, H.out⟩
    case round =>
      clear H
      obtain ⟨i, rfl, hi, hal, hM⟩ := hrel
      have HAL := hidp hal; have H := hidp hM
      clear hal hM
      by_cases hlt : i < n
      · have e1 : decide ((i : Int) < (n : Int)) = true := by simp; omega
        have hgl : i < cs.length := by rw [HN.out]; exact hlt
        obtain ⟨BK, off, c0, e2, hc, hBK0, hR0⟩ := HV.out.get (by rw [HN.out]; omega)
        rw [HN.out] at e2
        simp only [Value.slice.injEq] at e2
        obtain ⟨rfl, -, rfl⟩ := e2
        obtain ⟨c, hge⟩ : ∃ c, cs[i] = c := ⟨_, rfl⟩
        have HRI := hidp (show wr.rangeAt BK (off + 8 * i) c.row from by rw [← hge]; exact rangeAt_below (hR0 i hgl) H.out.below hBK0)
        clear hR0 hBK0 hc
        by_cases hk : c.k = k
        · have ek : ((c.k : Int) == (k : Int)) = true := by rw [hk]; simp
          by_cases hy : c.y = y
          · have ey : (c.y.toList == y.toList) = true := by rw [hy]; simp
            have HF := firS_hit (k := k) (y := y) HAL.out hgl (by rw [hge]; exact isC_key.2 ⟨hk, hy⟩)
            rw [hge] at HF
            have HGV := hidp (show geV cs k y = c.e from by unfold geV; rw [if_pos HOK.out, HF]; rfl); have HGE := hidp (show geE cs k y = 0 from by unfold geE; rw [if_pos HOK.out, HF]; rfl)
            clear HF
            clear hk hy hge hgl
            have tk0 := hidp trivial
            go_wp2_with (first | (clear tk0; (refine wpL_idxR tyC rfl (.tmp 14) (.tmp 16) rfl BK off n _ i rfl rfl hlt ?_); (try simp only [Act.put, setIfInBounds_toArray, set_cons_zero, set_cons_succ]); have tk1 := hidp trivial) | (clear tk1; (refine wpL_atR tyC rfl (.tmp 18) rfl BK (off + 8 * i) c.row rfl rfl HRI.out ?_); (try simp only [Act.put, setIfInBounds_toArray, set_cons_zero, set_cons_succ]); have tk2 := hidp trivial) | (clear tk2; (refine Mm.new rtC H (some 9) rfl rfl rfl ?_; clear H; intro b9 _ H nw; have hb := nw.below; clear hb nw); (try simp only [Act.put, setIfInBounds_toArray, set_cons_zero, set_cons_succ]); have tk3 := hidp trivial) | (clear tk3; (refine Mm.put0 rtC H rfl (.tmp 9) (.tmp 19) c.row rfl rfl rfl rfl (Ce.one c) rfl ?_; intro _ H2 st; clear st H; have H := H2; clear H2); (try simp only [Act.put, setIfInBounds_toArray, set_cons_zero, set_cons_succ]); have tk4 := hidp trivial) | (clear tk4; (refine Mm.ld0 naK H rfl (.tmp 20) 0 (.int .u8 (c.k : Int)) rfl rfl rfl ?_); (try simp only [Act.put, setIfInBounds_toArray, set_cons_zero, set_cons_succ]); have tk5 := hidp trivial) | (clear tk5; (refine Mm.ld0 naS H rfl (.tmp 25) 1 (.string c.y) rfl rfl rfl ?_); (try simp only [Act.put, setIfInBounds_toArray, set_cons_zero, set_cons_succ]); have tk6 := hidp trivial) | (clear tk6; (refine wpL_mid rtE rfl (.tmp 30) b9 2 c.e.row rfl rfl rfl (ce_evA H.out.at0) ?_); (try simp only [Act.put, setIfInBounds_toArray, set_cons_zero, set_cons_succ]); have tk7 := hidp trivial) | (clear tk7; (refine Mm.put1 rtE H rfl (.tmp 6) (.tmp 31) c.e.row rfl rfl rfl rfl (Ev.one _) rfl ?_; intro _ H2 st; clear st H; have H := H2; clear H2); (try simp only [Act.put, setIfInBounds_toArray, set_cons_zero, set_cons_succ]); have tk8 := hidp trivial))
            try clear tk8
            refine bodyPost_ret (Mm.ret_rowv rtE Tryz.results10 _ b6 _ _ rfl rfl H.out.at1 rfl) rfl ⟨by rw [HGV.out, HGE.out]; rfl, H.out.below⟩
          · have ey : (c.y.toList == y.toList) = false := by rw [beq_eq_false_iff_ne]; exact fun g => hy (ba_inj' g)
            have HNO := hidp (noC_succ HAL.out hgl (show isC k y cs[i] = false from by rw [hge]; unfold isC; rw [decide_eq_false hy, Bool.and_false]))
            clear hk hy hge hgl
            have tk0 := hidp trivial
            go_wp2_with (first | (clear tk0; (refine wpL_idxR tyC rfl (.tmp 14) (.tmp 16) rfl BK off n _ i rfl rfl hlt ?_); (try simp only [Act.put, setIfInBounds_toArray, set_cons_zero, set_cons_succ]); have tk1 := hidp trivial) | (clear tk1; (refine wpL_atR tyC rfl (.tmp 18) rfl BK (off + 8 * i) c.row rfl rfl HRI.out ?_); (try simp only [Act.put, setIfInBounds_toArray, set_cons_zero, set_cons_succ]); have tk2 := hidp trivial) | (clear tk2; (refine Mm.new rtC H (some 9) rfl rfl rfl ?_; clear H; intro b9 _ H nw; have hb := nw.below; clear hb nw); (try simp only [Act.put, setIfInBounds_toArray, set_cons_zero, set_cons_succ]); have tk3 := hidp trivial) | (clear tk3; (refine Mm.put0 rtC H rfl (.tmp 9) (.tmp 19) c.row rfl rfl rfl rfl (Ce.one c) rfl ?_; intro _ H2 st; clear st H; have H := H2; clear H2); (try simp only [Act.put, setIfInBounds_toArray, set_cons_zero, set_cons_succ]); have tk4 := hidp trivial) | (clear tk4; (refine Mm.ld0 naK H rfl (.tmp 20) 0 (.int .u8 (c.k : Int)) rfl rfl rfl ?_); (try simp only [Act.put, setIfInBounds_toArray, set_cons_zero, set_cons_succ]); have tk5 := hidp trivial) | (clear tk5; (refine Mm.ld0 naS H rfl (.tmp 25) 1 (.string c.y) rfl rfl rfl ?_); (try simp only [Act.put, setIfInBounds_toArray, set_cons_zero, set_cons_succ]); have tk6 := hidp trivial))
            try clear tk6
            exact ⟨⟨i + 1, by go_num, by omega, HNO.out, H.out.tail⟩, by simp [intOf]; omega⟩
        · have ek : ((c.k : Int) == (k : Int)) = false := by rw [beq_eq_false_iff_ne]; omega
          have HNO := hidp (noC_succ HAL.out hgl (show isC k y cs[i] = false from by rw [hge]; unfold isC; rw [decide_eq_false hk, Bool.false_and]))
          clear hk hge hgl
          have tk0 := hidp trivial
          go_wp2_with (first | (clear tk0; (refine wpL_idxR tyC rfl (.tmp 14) (.tmp 16) rfl BK off n _ i rfl rfl hlt ?_); (try simp only [Act.put, setIfInBounds_toArray, set_cons_zero, set_cons_succ]); have tk1 := hidp trivial) | (clear tk1; (refine wpL_atR tyC rfl (.tmp 18) rfl BK (off + 8 * i) c.row rfl rfl HRI.out ?_); (try simp only [Act.put, setIfInBounds_toArray, set_cons_zero, set_cons_succ]); have tk2 := hidp trivial) | (clear tk2; (refine Mm.new rtC H (some 9) rfl rfl rfl ?_; clear H; intro b9 _ H nw; have hb := nw.below; clear hb nw); (try simp only [Act.put, setIfInBounds_toArray, set_cons_zero, set_cons_succ]); have tk3 := hidp trivial) | (clear tk3; (refine Mm.put0 rtC H rfl (.tmp 9) (.tmp 19) c.row rfl rfl rfl rfl (Ce.one c) rfl ?_; intro _ H2 st; clear st H; have H := H2; clear H2); (try simp only [Act.put, setIfInBounds_toArray, set_cons_zero, set_cons_succ]); have tk4 := hidp trivial) | (clear tk4; (refine Mm.ld0 naK H rfl (.tmp 20) 0 (.int .u8 (c.k : Int)) rfl rfl rfl ?_); (try simp only [Act.put, setIfInBounds_toArray, set_cons_zero, set_cons_succ]); have tk5 := hidp trivial) | (clear tk5; (refine Mm.skipd 25 rfl _ _ rfl rfl ?_); (try simp only [Act.put, setIfInBounds_toArray, set_cons_zero, set_cons_succ]); have tk6 := hidp trivial) | (clear tk6; (refine Mm.skipd 26 rfl _ _ rfl rfl ?_); (try simp only [Act.put, setIfInBounds_toArray, set_cons_zero, set_cons_succ]); have tk7 := hidp trivial) | (clear tk7; (refine Mm.skipd 27 rfl _ _ rfl rfl ?_); (try simp only [Act.put, setIfInBounds_toArray, set_cons_zero, set_cons_succ]); have tk8 := hidp trivial) | (clear tk8; (refine Mm.skipd 28 rfl _ _ rfl rfl ?_); (try simp only [Act.put, setIfInBounds_toArray, set_cons_zero, set_cons_succ]); have tk9 := hidp trivial))
          try clear tk9
          exact ⟨⟨i + 1, by go_num, by omega, HNO.out, H.out.tail⟩, by simp [intOf]; omega⟩
      · have e1 : decide ((i : Int) < (n : Int)) = false := by simp; omega
        have hin : i = n := by omega
        have HF := firS_no (cs := cs) (k := k) (y := y) (by rw [HN.out, ← hin]; exact HAL.out)
        have HGV := hidp (show geV cs k y = zEv from by unfold geV; rw [if_pos HOK.out, HF]; rfl); have HGE := hidp (show geE cs k y = 3 from by unfold geE; rw [if_pos HOK.out, HF]; rfl)
        clear HF hin
        have tk0 := hidp trivial
        go_wp2_with (first | (clear tk0; (refine Rt.wpL_build rfl 25 _ rfl zE (by kernel_rfl) ?_); (try simp only [Act.put, setIfInBounds_toArray, set_cons_zero, set_cons_succ]); have tk1 := hidp trivial) | (clear tk1; (refine Mm.put0 rtE H rfl (.tmp 6) (.tmp 33) zE rfl rfl rfl rfl (by simp [zE, Value.oneCell']) rfl ?_; intro _ H2 st; clear st H; have H := H2; clear H2); (try simp only [Act.put, setIfInBounds_toArray, set_cons_zero, set_cons_succ]); have tk2 := hidp trivial))
        try clear tk2
        refine bodyPost_ret (Mm.ret_rowv rtE Tryz.results10 _ b6 _ _ rfl rfl H.out.at0 rfl) rfl ⟨by rw [HGV.out, HGE.out]; rfl, H.out.below⟩

set_option maxHeartbeats 16000000 in
theorem rmem_any (w : World) (v : Value) (cs : List Ce) (hv : CsAt w v cs) (y : ByteArray) :
    Calls Tryz.prog 16 #[v, .string y] w fun x w' => x = .returned (.string (memS cs y)) ∧ Below w.heap.size w w' := by
  have HV := hidp hv; clear hv
  obtain ⟨av, cv0, rfl⟩ := HV.out.form
  have h47 := HV.out.len
  obtain ⟨n, hn⟩ : ∃ n, cs.length = n := ⟨_, rfl⟩
  have HN := hidp hn
  rw [hn] at HV h47 ⊢
  clear hn
  have H := hidp (Mm.M.nil w)
  obtain ⟨k, hk2⟩ : ∃ k, k = 2 := ⟨_, rfl⟩
  have HK2 := hidp hk2
  go_enter Tryz.func16, Tryz.ntmps16
  go_wp2_with fail
  go_loopw [9] (fun t9 wr => ∃ i : Nat, t9 = .int .i64 (i : Int) ∧ i ≤ n ∧ (cs.take i).all (fun c => !isC k y c) = true ∧ Mm.M w.heap.size w wr []) (fun t9 _ => n - (intOf t9).toNat)
  case atStart => exact ⟨0, rfl, by omega, rfl, H.out⟩
  case round =>
    clear H
    obtain ⟨i, rfl, hi, hal, hM⟩ := hrel
    have HAL := hidp hal; have H := hidp hM
    clear hal hM
    by_cases hlt : i < n
    · have e1 : decide ((i : Int) < (n : Int)) = true := by simp; omega
      have hgl : i < cs.length := by rw [HN.out]; exact hlt
      obtain ⟨BK, off, c0, e2, hc, hBK0, hR0⟩ := HV.out.get (by rw [HN.out]; omega)
      rw [HN.out] at e2
      simp only [Value.slice.injEq] at e2
      obtain ⟨rfl, -, rfl⟩ := e2
      obtain ⟨c, hge⟩ : ∃ c, cs[i] = c := ⟨_, rfl⟩
      have HRI := hidp (show wr.rangeAt BK (off + 8 * i) c.row from by rw [← hge]; exact rangeAt_below (hR0 i hgl) H.out.below hBK0)
      clear hR0 hBK0 hc
      by_cases hk : c.k = k
      · have ek : ((c.k : Int) == 2) = true := by rw [hk, HK2.out]; rfl
        by_cases hy : c.y = y
        · have ey : (c.y.toList == y.toList) = true := by rw [hy]; simp
          have HF0 := firS_hit (k := k) (y := y) HAL.out hgl (by rw [hge]; exact isC_key.2 ⟨hk, hy⟩)
          rw [hge] at HF0
          have HF := hidp (show memS cs y = c.e.body from by unfold memS; rw [← HK2.out, HF0]; rfl)
          clear HF0
          clear hk hy hge hgl
          have tk0 := hidp trivial
          go_wp2_with (first | (clear tk0; (refine wpL_idxR tyC rfl (.tmp 7) (.tmp 9) rfl BK off n _ i rfl rfl hlt ?_); (try simp only [Act.put, setIfInBounds_toArray, set_cons_zero, set_cons_succ]); have tk1 := hidp trivial) | (clear tk1; (refine wpL_atR tyC rfl (.tmp 11) rfl BK (off + 8 * i) c.row rfl rfl HRI.out ?_); (try simp only [Act.put, setIfInBounds_toArray, set_cons_zero, set_cons_succ]); have tk2 := hidp trivial) | (clear tk2; (refine Mm.new rtC H (some 6) rfl rfl rfl ?_; clear H; intro b6 _ H nw; have hb := nw.below; clear hb nw); (try simp only [Act.put, setIfInBounds_toArray, set_cons_zero, set_cons_succ]); have tk3 := hidp trivial) | (clear tk3; (refine Mm.put0 rtC H rfl (.tmp 6) (.tmp 12) c.row rfl rfl rfl rfl (Ce.one c) rfl ?_; intro _ H2 st; clear st H; have H := H2; clear H2); (try simp only [Act.put, setIfInBounds_toArray, set_cons_zero, set_cons_succ]); have tk4 := hidp trivial) | (clear tk4; (refine Mm.ld0 naK H rfl (.tmp 13) 0 (.int .u8 (c.k : Int)) rfl rfl rfl ?_); (try simp only [Act.put, setIfInBounds_toArray, set_cons_zero, set_cons_succ]); have tk5 := hidp trivial) | (clear tk5; (refine Mm.ld0 naS H rfl (.tmp 17) 1 (.string c.y) rfl rfl rfl ?_); (try simp only [Act.put, setIfInBounds_toArray, set_cons_zero, set_cons_succ]); have tk6 := hidp trivial) | (clear tk6; (refine Mm.ld0 naS H rfl (.tmp 23) 6 (.string c.e.body) rfl rfl rfl ?_); (try simp only [Act.put, setIfInBounds_toArray, set_cons_zero, set_cons_succ]); have tk7 := hidp trivial))
          try clear tk7
          go_ret
          exact ⟨by rw [HF.out]; rfl, H.out.below⟩
        · have ey : (c.y.toList == y.toList) = false := by rw [beq_eq_false_iff_ne]; exact fun g => hy (ba_inj' g)
          have HNO := hidp (noC_succ HAL.out hgl (show isC k y cs[i] = false from by rw [hge]; unfold isC; rw [decide_eq_false hy, Bool.and_false]))
          clear hk hy hge hgl
          have tk0 := hidp trivial
          go_wp2_with (first | (clear tk0; (refine wpL_idxR tyC rfl (.tmp 7) (.tmp 9) rfl BK off n _ i rfl rfl hlt ?_); (try simp only [Act.put, setIfInBounds_toArray, set_cons_zero, set_cons_succ]); have tk1 := hidp trivial) | (clear tk1; (refine wpL_atR tyC rfl (.tmp 11) rfl BK (off + 8 * i) c.row rfl rfl HRI.out ?_); (try simp only [Act.put, setIfInBounds_toArray, set_cons_zero, set_cons_succ]); have tk2 := hidp trivial) | (clear tk2; (refine Mm.new rtC H (some 6) rfl rfl rfl ?_; clear H; intro b6 _ H nw; have hb := nw.below; clear hb nw); (try simp only [Act.put, setIfInBounds_toArray, set_cons_zero, set_cons_succ]); have tk3 := hidp trivial) | (clear tk3; (refine Mm.put0 rtC H rfl (.tmp 6) (.tmp 12) c.row rfl rfl rfl rfl (Ce.one c) rfl ?_; intro _ H2 st; clear st H; have H := H2; clear H2); (try simp only [Act.put, setIfInBounds_toArray, set_cons_zero, set_cons_succ]); have tk4 := hidp trivial) | (clear tk4; (refine Mm.ld0 naK H rfl (.tmp 13) 0 (.int .u8 (c.k : Int)) rfl rfl rfl ?_); (try simp only [Act.put, setIfInBounds_toArray, set_cons_zero, set_cons_succ]); have tk5 := hidp trivial) | (clear tk5; (refine Mm.ld0 naS H rfl (.tmp 17) 1 (.string c.y) rfl rfl rfl ?_); (try simp only [Act.put, setIfInBounds_toArray, set_cons_zero, set_cons_succ]); have tk6 := hidp trivial))
          try clear tk6
          exact ⟨⟨i + 1, by go_num, by omega, HNO.out, H.out.tail⟩, by simp [intOf]; omega⟩
      · have ek : ((c.k : Int) == 2) = false := by have := HK2.out; rw [beq_eq_false_iff_ne]; omega
        have HNO := hidp (noC_succ HAL.out hgl (show isC k y cs[i] = false from by rw [hge]; unfold isC; rw [decide_eq_false hk, Bool.false_and]))
        clear hk hge hgl
        have tk0 := hidp trivial
        go_wp2_with (first | (clear tk0; (refine wpL_idxR tyC rfl (.tmp 7) (.tmp 9) rfl BK off n _ i rfl rfl hlt ?_); (try simp only [Act.put, setIfInBounds_toArray, set_cons_zero, set_cons_succ]); have tk1 := hidp trivial) | (clear tk1; (refine wpL_atR tyC rfl (.tmp 11) rfl BK (off + 8 * i) c.row rfl rfl HRI.out ?_); (try simp only [Act.put, setIfInBounds_toArray, set_cons_zero, set_cons_succ]); have tk2 := hidp trivial) | (clear tk2; (refine Mm.new rtC H (some 6) rfl rfl rfl ?_; clear H; intro b6 _ H nw; have hb := nw.below; clear hb nw); (try simp only [Act.put, setIfInBounds_toArray, set_cons_zero, set_cons_succ]); have tk3 := hidp trivial) | (clear tk3; (refine Mm.put0 rtC H rfl (.tmp 6) (.tmp 12) c.row rfl rfl rfl rfl (Ce.one c) rfl ?_; intro _ H2 st; clear st H; have H := H2; clear H2); (try simp only [Act.put, setIfInBounds_toArray, set_cons_zero, set_cons_succ]); have tk4 := hidp trivial) | (clear tk4; (refine Mm.ld0 naK H rfl (.tmp 13) 0 (.int .u8 (c.k : Int)) rfl rfl rfl ?_); (try simp only [Act.put, setIfInBounds_toArray, set_cons_zero, set_cons_succ]); have tk5 := hidp trivial) | (clear tk5; (refine Mm.skipd 17 rfl _ _ rfl rfl ?_); (try simp only [Act.put, setIfInBounds_toArray, set_cons_zero, set_cons_succ]); have tk6 := hidp trivial) | (clear tk6; (refine Mm.skipd 18 rfl _ _ rfl rfl ?_); (try simp only [Act.put, setIfInBounds_toArray, set_cons_zero, set_cons_succ]); have tk7 := hidp trivial) | (clear tk7; (refine Mm.skipd 19 rfl _ _ rfl rfl ?_); (try simp only [Act.put, setIfInBounds_toArray, set_cons_zero, set_cons_succ]); have tk8 := hidp trivial) | (clear tk8; (refine Mm.skipd 20 rfl _ _ rfl rfl ?_); (try simp only [Act.put, setIfInBounds_toArray, set_cons_zero, set_cons_succ]); have tk9 := hidp trivial))
        try clear tk9
        exact ⟨⟨i + 1, by go_num, by omega, HNO.out, H.out.tail⟩, by simp [intOf]; omega⟩
    · have e1 : decide ((i : Int) < (n : Int)) = false := by simp; omega
      have hin : i = n := by omega
      have HF0 := firS_no (cs := cs) (k := k) (y := y) (by rw [HN.out, ← hin]; exact HAL.out)
      have HF := hidp (show memS cs y = wLeave from by unfold memS; rw [← HK2.out, HF0]; rfl)
      clear HF0 hin
      go_wp2_with fail
      go_ret
      exact ⟨by rw [HF.out]; rfl, H.out.below⟩

section
variable {ops : Array Oper} {rest : List Oper} {o : Oper} {a : Act} {w : World} {Q : Exit → Act → World → Prop}
theorem wpL_appSP (hgd : o.guard = none) (s x : Operand) (ho : o.op = .call { callee := .builtin .append, args := #[s, x], argTypes := #[31, 31] }) (B : Nat) (v : Value) (l : List Value) (b t : Nat) (u : Value) (hs : a.eval s = v) (hx : a.eval x = .slice (some ⟨b, 0, none⟩) 1 1)
    (hown : OwnV w B 9 v l) (hc : Arr w b t [u]) (hu : u.oneCell' = true) (hlen : l.length ≤ 4398046511104) (hB : B ≤ w.heap.size)
    (h : ∀ v' w', OwnV w' B 9 v' (l ++ [u]) → Below B w w' → wpList Tryz.prog ops Q rest (a.put o.dst v') w') : wpList Tryz.prog ops Q (o :: rest) a w := by
  obtain ⟨i0, hi, hz0, hz1, hz2⟩ := info_parts info9
  exact wpList_appV hgd s x 31 ho B 9 i0 (.string ByteArray.empty) 16 Tryz.underlying31 hi hz0 hz1 hz2 rfl v l hs hown ⟨b, 0, none⟩ 1 u hx (hc.cell 0 (by simp)) hu (by simp [maxLen]; omega) (by omega) hB h
end
set_option maxHeartbeats 16000000 in
theorem rkeys_any (w : World) (v : Value) (cs : List Ce) (hv : CsAt w v cs) (k : Nat) (hcl : cs.length ≤ 1400000000000) :
    Calls Tryz.prog 14 #[v, .int .u8 (k : Int)] w fun e w' => ∃ v', e = .returned v' ∧ StrsAt w' v' (kyL cs k) ∧ Below w.heap.size w w' := by
  have HV := hidp hv; clear hv
  obtain ⟨av, cv0, rfl⟩ := HV.out.form
  have h47 := HV.out.len
  obtain ⟨n, hn⟩ : ∃ n, cs.length = n := ⟨_, rfl⟩
  have HN := hidp hn
  have HL := hidp (fun i => kiT_len cs k i)
  rw [hn] at HV h47 hcl ⊢
  clear hn
  have H := hidp (Mm.M.nil w)
  go_enter Tryz.func14, Tryz.ntmps14
  go_wp2_with fail
  go_loopw [5, 10] (fun t5 t10 wr => ∃ i : Nat, t10 = .int .i64 (i : Int) ∧ i ≤ n ∧ OwnV wr w.heap.size 9 t5 (strV (kyT cs k i)) ∧ Mm.M w.heap.size w wr []) (fun _ t10 _ => n - (intOf t10).toNat)
  case atStart => exact ⟨0, rfl, by omega, OwnV.nil _ _ _, H.out⟩
  case round =>
    clear H
    obtain ⟨i, rfl, hi, hO, hM⟩ := hrel
    have H := hidp hM; have HO := hidp hO
    clear hM hO
    by_cases hlt : i < n
    · have e1 : decide ((i : Int) < (n : Int)) = true := by simp; omega
      have hgl : i < cs.length := by rw [HN.out]; exact hlt
      obtain ⟨BK, off, c0, e2, hc, hBK0, hR0⟩ := HV.out.get (by rw [HN.out]; omega)
      rw [HN.out] at e2
      simp only [Value.slice.injEq] at e2
      obtain ⟨rfl, -, rfl⟩ := e2
      obtain ⟨c, hge⟩ : ∃ c, cs[i] = c := ⟨_, rfl⟩
      have HRI := hidp (show wr.rangeAt BK (off + 8 * i) c.row from by rw [← hge]; exact rangeAt_below (hR0 i hgl) H.out.below hBK0)
      have HLN := hidp (show (strV (kyT cs k i)).length ≤ 4398046511104 from by have := HL.out i; rw [HN.out] at this; rw [strV_length]; unfold kyT; rw [List.length_map]; omega)
      have HJ0 := hidp (kyT_succ (k := k) hgl hge)
      obtain ⟨l0, hl0⟩ : ∃ l, kyT cs k i = l := ⟨_, rfl⟩
      rw [hl0] at HJ0 HO HLN
      clear hR0 hBK0 hge hc hl0
      by_cases hk : c.k = k
      · have ek : ((c.k : Int) == (k : Int)) = true := by rw [hk]; simp
        have HJ := hidp (show kyT cs k (i + 1) = l0 ++ [c.y] from by rw [HJ0.out, if_pos hk])
        clear hk HJ0
        have tk0 := hidp trivial
        go_wp2_with (first | (clear tk0; (refine wpL_idxR tyC rfl (.tmp 8) (.tmp 10) rfl BK off n _ i rfl rfl hlt ?_); (try simp only [Act.put, setIfInBounds_toArray, set_cons_zero, set_cons_succ]); have tk1 := hidp trivial) | (clear tk1; (refine wpL_atR tyC rfl (.tmp 12) rfl BK (off + 8 * i) c.row rfl rfl HRI.out ?_); (try simp only [Act.put, setIfInBounds_toArray, set_cons_zero, set_cons_succ]); have tk2 := hidp trivial) | (clear tk2; (refine Mm.new rtC H (some 7) rfl rfl rfl ?_; clear H; intro b7 _ H nw; have hb := nw.below; replace HO := hidp (HO.out.kept hb (Nat.le_refl _)); clear hb nw); (try simp only [Act.put, setIfInBounds_toArray, set_cons_zero, set_cons_succ]); have tk3 := hidp trivial) | (clear tk3; (refine Mm.put0 rtC H rfl (.tmp 7) (.tmp 13) c.row rfl rfl rfl rfl (Ce.one c) rfl ?_; intro _ H2 st; replace HO := hidp (HO.out.stp st H.out.at0 (by decide)); clear st H; have H := H2; clear H2); (try simp only [Act.put, setIfInBounds_toArray, set_cons_zero, set_cons_succ]); have tk4 := hidp trivial) | (clear tk4; (refine Mm.ld0 naK H rfl (.tmp 14) 0 (.int .u8 (c.k : Int)) rfl rfl rfl ?_); (try simp only [Act.put, setIfInBounds_toArray, set_cons_zero, set_cons_succ]); have tk5 := hidp trivial) | (clear tk5; (refine Mm.ld0 naS H rfl (.tmp 19) 1 (.string c.y) rfl rfl rfl ?_); (try simp only [Act.put, setIfInBounds_toArray, set_cons_zero, set_cons_succ]); have tk6 := hidp trivial) | (clear tk6; (refine wpL_oneG H rfl (.tmp 20) c.y rfl rfl ?_; clear H; intro b21 _ H nw; replace HO := hidp (HO.out.kept nw.below (Nat.le_refl _)); clear nw); (try simp only [Act.put, setIfInBounds_toArray, set_cons_zero, set_cons_succ]); have tk7 := hidp trivial) | (clear tk7; (at_builtin; (refine wpL_appSP rfl (.tmp 18) (.tmp 21) rfl w.heap.size _ _ b21 _ (.string c.y) rfl rfl HO.out H.out.at0 rfl HLN.out H.out.le ?_; intro v9 w9 ho9 hb9; have HB9 := hidp (H.out.below.trans hb9); have HO9 := hidp ho9; clear ho9 hb9 HO)); (try simp only [Act.put, setIfInBounds_toArray, set_cons_zero, set_cons_succ]); have tk8 := hidp trivial))
        try clear tk8
        exact ⟨⟨i + 1, by go_num, by omega, by rw [HJ.out, ← strV_snoc]; exact HO9.out, ⟨HB9.out, HB9.out.size, by simp, List.Pairwise.nil, by simp⟩⟩, by simp [intOf]; omega⟩
      · have ek : ((c.k : Int) == (k : Int)) = false := by rw [beq_eq_false_iff_ne]; omega
        have HJ := hidp (show kyT cs k (i + 1) = l0 from by rw [HJ0.out, if_neg hk]; simp)
        clear hk HJ0
        have tk0 := hidp trivial
        go_wp2_with (first | (clear tk0; (refine wpL_idxR tyC rfl (.tmp 8) (.tmp 10) rfl BK off n _ i rfl rfl hlt ?_); (try simp only [Act.put, setIfInBounds_toArray, set_cons_zero, set_cons_succ]); have tk1 := hidp trivial) | (clear tk1; (refine wpL_atR tyC rfl (.tmp 12) rfl BK (off + 8 * i) c.row rfl rfl HRI.out ?_); (try simp only [Act.put, setIfInBounds_toArray, set_cons_zero, set_cons_succ]); have tk2 := hidp trivial) | (clear tk2; (refine Mm.new rtC H (some 7) rfl rfl rfl ?_; clear H; intro b7 _ H nw; have hb := nw.below; replace HO := hidp (HO.out.kept hb (Nat.le_refl _)); clear hb nw); (try simp only [Act.put, setIfInBounds_toArray, set_cons_zero, set_cons_succ]); have tk3 := hidp trivial) | (clear tk3; (refine Mm.put0 rtC H rfl (.tmp 7) (.tmp 13) c.row rfl rfl rfl rfl (Ce.one c) rfl ?_; intro _ H2 st; replace HO := hidp (HO.out.stp st H.out.at0 (by decide)); clear st H; have H := H2; clear H2); (try simp only [Act.put, setIfInBounds_toArray, set_cons_zero, set_cons_succ]); have tk4 := hidp trivial) | (clear tk4; (refine Mm.ld0 naK H rfl (.tmp 14) 0 (.int .u8 (c.k : Int)) rfl rfl rfl ?_); (try simp only [Act.put, setIfInBounds_toArray, set_cons_zero, set_cons_succ]); have tk5 := hidp trivial))
        try clear tk5
        exact ⟨⟨i + 1, by go_num, by omega, by rw [HJ.out]; exact HO.out, H.out.tail⟩, by simp [intOf]; omega⟩
    · have e1 : decide ((i : Int) < (n : Int)) = false := by simp; omega
      have hin : i = n := by omega
      have HT := hidp (show kyT cs k i = kyL cs k from by rw [hin, ← HN.out]; rfl)
      clear hin
      go_wp2_with fail
      go_ret
      exact ⟨_, rfl, by have := HO.out.strs; rw [HT.out] at this; exact this, H.out.below⟩
end Go.Proofs.YtiakfopdohcigaaGreatDoor
