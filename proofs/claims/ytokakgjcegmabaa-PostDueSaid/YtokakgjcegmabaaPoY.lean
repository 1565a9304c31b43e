/-
  PostDue.
-/
import Derived.Test.YtokakgjcegmabaaPoX
namespace Go.Proofs.Ytokakgjcegmabaa.Po
set_option maxRecDepth 100000
set_option linter.unusedVariables false
set_option linter.unusedSimpArgs false
open Go.RowKit
open List (getElem_toArray getElem_cons_zero getElem_cons_succ setIfInBounds_toArray set_cons_zero set_cons_succ)

open Go.Conc Go.Shelf Rw
theorem bne_refl2 (x : Int) : (x != x) = false := by simp
theorem mail_at {w : World} {BD oD : Nat} {D : List Lt} (h : w.rangeAt BD oD (mls D).flatten) {i : Nat} {p : Lt} (hp : D[i]? = some p) : w.rangeAt BD (oD + 3 * i) p.mail := by
  obtain ⟨hi, rfl⟩ := List.getElem?_eq_some_iff.1 hp
  have := rAt_nth h (mls_all D) i (by simpa [mls] using hi)
  rw [show (mls D)[i]'(by simpa [mls] using hi) = (D[i]).mail from by simp [mls]] at this
  exact this
set_option maxHeartbeats 64000000 in
theorem walk_postDue (w : World) (g0 : Int) (hg0 : 0 ≤ g0 ∧ g0 ≤ 255) (va : Value) (ns : List Int) (hva0 : StAt w va ns) : Calls Try.prog 6 #[.int .u8 g0, va] w fun e w' => e = .returned (.bool true) ∧ Below w.heap.size w w' := by
  have H := hidp (Mm.M.nil w)
  have HVA := hidp hva0
  obtain ⟨g, hgg⟩ : ∃ g, g0 % 20 + 1 = g := ⟨_, rfl⟩
  have hg20 : 1 ≤ g ∧ g ≤ 20 := by omega
  go_enter Try.func6, Try.ntmps6
  have tk0 := hidp trivial
  go_upto_region 4 with (first | (clear tk0; (go_at_call 22; refine (lives23_any _).mono ?_; rintro e _ ⟨rfl, hb⟩; replace H := hidp (H.out.call hb); clear hb); (try simp only [Act.put, setIfInBounds_toArray, set_cons_zero, set_cons_succ]); have tk1 := hidp trivial))
  try clear tk1
  try simp only [hgg]
  have hno : newOk 9 g = true := by simp [newOk]; omega
  obtain ⟨a, cv, hva⟩ := hva0.form
  obtain ⟨m, hm⟩ : ∃ m, ns.length = m := ⟨_, rfl⟩
  rw [hm] at hva
  subst hva
  by_cases hbig : 100 < m
  · have eb : decide ((100 : Int) < (m : Int)) = true := by simp; omega
    have tk0 := hidp trivial
    go_wp2_with (first | (clear tk0; (go_at_call 23; refine (new_ok _ 9 g hno).mono ?_; rintro e _ ⟨b, c, rfl, hp, hb, hgb, hgc⟩; have HGB := hidp (Nat.le_trans H.out.below.size hgb); have HGC := hidp (Nat.le_trans H.out.below.size hgc); replace H := hidp (H.out.call hb); have HP := hidp hp; clear hp hb hgb hgc); (try simp only [Act.put, setIfInBounds_toArray, set_cons_zero, set_cons_succ]); have tk1 := hidp trivial))
    try clear tk1
    go_ret
    exact ⟨rfl, H.out.below⟩
  · have eb : decide ((100 : Int) < (m : Int)) = false := by simp; omega
    have tk0 := hidp trivial
    go_wp2_with (first | (clear tk0; (go_at_call 23; refine (new_ok _ 9 g hno).mono ?_; rintro e _ ⟨b, c, rfl, hp, hb, hgb, hgc⟩; have HGB := hidp (Nat.le_trans H.out.below.size hgb); have HGC := hidp (Nat.le_trans H.out.below.size hgc); replace H := hidp (H.out.call hb); have HP := hidp hp; clear hp hb hgb hgc); (try simp only [Act.put, setIfInBounds_toArray, set_cons_zero, set_cons_succ]); have tk1 := hidp trivial) | (clear tk1; (refine wpL_make1 rfl (.const (.int .i64 1)) (.const (.int .i64 1)) rfl rfl rfl ?_; intro b9 W3 nw; have hb := nw.below; have HLA := hidp (show LaAt W3 w.heap.size (.slice (some ⟨b9, 0, none⟩) 1 1) [0] from Sl.own_arr nw.arr (Nat.le_trans H.out.le nw.le) (by simp)); replace H := hidp (H.out.call hb); replace HP := hidp (HP.out.to hb); clear hb nw); (try simp only [Act.put, setIfInBounds_toArray, set_cons_zero, set_cons_succ]); have tk2 := hidp trivial))
    try clear tk2
    go_loopw [8, 9, 50] (fun t8 t9 t50 wr => ∃ (i : Nat) (now : Int) (L : List Lt) (la : List Int) (last lost : Int), t50 = .int .i64 (i : Int) ∧ t8 = .int .i64 now ∧ i ≤ m ∧ PostAt wr b c 9 L g last lost ∧ LaAt wr w.heap.size t9 la ∧ Mm.M w.heap.size w wr [] ∧ Dv L la now g last lost i) (fun _ _ t50 _ => m - (intOf t50).toNat)
    case atStart => exact ⟨0, 0, [], [0], 0, 0, rfl, rfl, Nat.zero_le _, HP.out, HLA.out, H.out, Dv.start g⟩
    case round =>
      obtain ⟨i, now, L, la, lastI, lost, rfl, rfl, hi, hp, hlaat, hm2, hdv⟩ := hrel
      clear H HP HLA
      have HP := hidp hp; have HLA := hidp hlaat; have H := hidp hm2
      clear hp hlaat hm2
      by_cases hlt : i < m
      · have e1 : decide ((i : Int) < (m : Int)) = true := by simp; omega
        obtain ⟨BK, off, cc, e2, hBK, hR0⟩ := HVA.out.get (by omega)
        rw [hm] at e2
        simp only [Value.slice.injEq] at e2
        obtain ⟨rfl, -, rfl⟩ := e2
        have hil : i < ns.length := by omega
        obtain ⟨s, hs⟩ : ∃ s, ns[i]? = some s := ⟨_, List.getElem?_eq_getElem hil⟩
        have hsr := HVA.out.rg s (List.mem_of_getElem? hs)
        have HSC := hidp (hR0 i s hs)
        have HBK := hidp hBK
        clear hR0 hBK hil hs
        have hla0 := hdv.la_
        obtain ⟨last, rfl⟩ : ∃ n : Nat, lastI = (n : Int) := ⟨lastI.toNat, by omega⟩
        have hla : 0 ≤ (last : Int) ∧ (last : Int) ≤ 1048576 := by omega
        have hlo : 0 ≤ lost ∧ lost ≤ 1048576 := by have := hdv.lo; omega
        have hnw := hdv.no
        have hpk : putOk ((i : Int) % 4) = true := by simp [putOk]; omega
        have hlen : la.length = last + 1 := by have := hdv.len; omega
        have HNL := hidp (show la.length ≤ 1048576 from by omega)
        obtain ⟨a9, c9, hv9⟩ := Sl.own_form HLA.out
        rw [List.length_map, hlen] at hv9
        subst hv9
        by_cases hfl0 : L.length < 9
        · have hfl := hfl0
          clear hfl0
          have HDV := hidp (Dv.room hdv hg20 (s % 16) (by omega) hfl ((i : Int) % 4) (⟨#[120]⟩ : ByteArray) (by decide))
          have tk0 := hidp trivial
          go_upto_region 18 with (first | (clear tk0; (refine Sl.wpL_idx1 Try.underlying72 (by kernel_rfl) rfl (.tmp 48) (.tmp 50) rfl BK off m _ i rfl rfl hlt ?_); (try simp only [Act.put, setIfInBounds_toArray, set_cons_zero, set_cons_succ]); have tk1 := hidp trivial) | (clear tk1; (refine Mm.ldc naU8 rfl (.tmp 53) ⟨BK, off + i, none⟩ (.int .u8 s) rfl rfl ((H.out.below.cell HBK.out).trans HSC.out) ?_); (try simp only [Act.put, setIfInBounds_toArray, set_cons_zero, set_cons_succ]); have tk2 := hidp trivial) | (clear tk2; (go_at_call 26; refine (put_roomP _ b c 9 L g last lost HP.out hfl hla ((i : Int) % 4) (⟨#[120]⟩ : ByteArray) (by decide) hpk).mono ?_; rintro e W9 ⟨rfl, hp, hk⟩; replace HLA := hidp (la_pk HLA.out HP.out hk); replace H := hidp (M_pk2 H.out hk HP.out HGB.out HGC.out (by intro x hx; cases hx)); clear HP; have HP := hidp (show PostAt W9 b c 9 (L ++ [⟨(last : Int) + 1, (i : Int) % 4, (⟨#[120]⟩ : ByteArray), false, 0⟩]) g ((last : Int) + 1) lost from hp); clear hp hk); (try simp only [Act.put, setIfInBounds_toArray, set_cons_zero, set_cons_succ]); have tk3 := hidp trivial) | (clear tk3; (refine wpL_bsJ rfl (.tmp 70) (-g) rfl rfl ?_; intro b1 _ nw; have HG := hidp nw.arr; have hb := nw.below; replace H := hidp (H.out.call hb); replace HP := hidp (HP.out.to hb); replace HLA := hidp (Sl.own_to HLA.out hb); clear hb nw); (try simp only [Act.put, setIfInBounds_toArray, set_cons_zero, set_cons_succ]); have tk4 := hidp trivial) | (clear tk4; (refine wpL_appJ rfl (.tmp 68) (.tmp 71) rfl w.heap.size b1 _ la (-g) rfl rfl HLA.out HG.out H.out.le HNL.out ?_; intro v2 W2 ho hg2; replace HP := hidp (post_keep HLA.out hg2 HP.out); replace H := hidp (M_low H.out (grown_low HLA.out H.out.le hg2) hg2.size); clear HLA HG; have HLA := hidp ho; clear ho hg2); (try simp only [Act.put, setIfInBounds_toArray, set_cons_zero, set_cons_succ]); have tk5 := hidp trivial))
          try clear tk5
          obtain ⟨L1, hL1⟩ : ∃ l, L ++ [(⟨(last : Int) + 1, (i : Int) % 4, (⟨#[120]⟩ : ByteArray), false, 0⟩ : Lt)] = l := ⟨_, rfl⟩
          obtain ⟨la1, hla1⟩ : ∃ l, la ++ [-g] = l := ⟨_, rfl⟩
          obtain ⟨now1, hnow1⟩ : ∃ z, now + s % 16 = z := ⟨_, rfl⟩
          obtain ⟨last1, hlast1⟩ : ∃ z, (last : Int) + 1 = z := ⟨_, rfl⟩
          obtain ⟨lost1, hlost1⟩ : ∃ z, lost = z := ⟨_, rfl⟩
          rw [hL1, hla1, hnow1, hlast1, hlost1] at HDV
          rw [hL1, hlast1, hlost1] at HP
          rw [hla1] at HLA
          simp only [hnow1]
          have HAT := hidp (show ∀ x ∈ L1, 0 ≤ x.at_ ∧ x.at_ ≤ 1099511627776 from fun x hx => by have h1 := HDV.out.at_ x hx; have h2 := HDV.out.no; omega)
          have HLB := hidp (show L1.length ≤ 1048575 from by have := HDV.out.cap; omega)
          have hnk : nowOk now1 = true := by have h2 := HDV.out.no; simp [nowOk]; omega
          have HCP2 := hidp (show (L1.map (mkF now1 g)).length ≤ 9 from by rw [List.length_map]; exact HDV.out.cap)
          have HLB2 := hidp (show (L1.map (mkF now1 g)).length ≤ 1048575 from by have := HCP2.out; omega)
          have HLB3 := hidp (show (L1.map (mkF now1 g)).length ≤ 1048576 from by have := HCP2.out; omega)
          have HSZ2 := hidp (show ∀ x ∈ L1.map (mkF now1 g), x.tx.size ≤ 140737488351232 from fun x hx => by obtain ⟨y, hy, rfl⟩ := List.mem_map.1 hx; have e2 : (mkF now1 g y).tx = y.tx := (by unfold mkF mkD; split <;> rfl); rw [e2]; exact HDV.out.sz y hy)
          obtain ⟨nn, hnn⟩ : ∃ nn, (mls (L1.filter fun x => dueB x now1 g)).length = nn := ⟨_, rfl⟩
          obtain ⟨nl, hml⟩ : ∃ nl, (mls L1).length = nl := ⟨_, rfl⟩
          have hnl : L1.length = nl := by rw [← hml]; simp [mls]
          have hnf : (L1.filter fun x => dueB x now1 g).length = nn := by rw [← hnn]; simp [mls]
          have HNB := hidp (show nl ≤ 9 from by rw [← hnl]; exact HDV.out.cap)
          have HNN := hidp (show nn ≤ 9 from by have h1 := HNB.out; have h2 := List.length_filter_le (fun x => dueB x now1 g) L1; omega)
          obtain ⟨q, hq⟩ : ∃ q, la1.length = q := ⟨_, rfl⟩
          have HQ1 := hidp (show (q : Int) = last1 + 1 from by rw [← hq]; exact HDV.out.len)
          have HQL := hidp (show (q : Int) ≤ 1000 from by have h1 := HQ1.out; have h2 := HDV.out.la_; omega)
          obtain ⟨BL, c9, hv9, -, -, -⟩ := la_get HLA.out (by have h1 := HQ1.out; have h2 := HDV.out.la_; omega)
          rw [hq] at hv9
          first | subst hv9 | (simp only [Value.slice.injEq] at hv9; obtain ⟨rfl, hqe, rfl⟩ := hv9; rw [hqe] at HLA ⊢)
          have tk0 := hidp trivial
          go_wp2_with (first | (clear tk0; (go_at_call 29; refine (dueP_any _ b c 9 L1 g last1 lost1 HP.out HDV.out.cap HLB.out HDV.out.sz HAT.out now1 hnk).mono ?_; have HLE := H.out.le; rintro e W9 ⟨vd, rfl, ho, hp, hk⟩; replace HLA := hidp (la_pk HLA.out HP.out hk); replace H := hidp (M_pk2 H.out hk HP.out HGB.out HGC.out (by intro x hx; cases hx)); clear HP; have HP := hidp (show PostAt W9 b c 9 (L1.map (mkF now1 g)) g last1 lost1 from hp); have HD := hidp (ho.base (C := w.heap.size) HLE); clear ho; obtain ⟨da, dc, hvd⟩ := HD.out.rs.form; rw [hnn] at hvd; subst hvd; clear hp hk HLE); (try simp only [Act.put, setIfInBounds_toArray, set_cons_zero, set_cons_succ]); have tk1 := hidp trivial) | (clear tk1; (go_at_call 33; refine (all_any _ b c 9 (L1.map (mkF now1 g)) g last1 lost1 HP.out HCP2.out HLB2.out HSZ2.out).mono ?_; have HLE := H.out.le; rintro e W9 ⟨va, rfl, ho, hp, hk⟩; replace HLA := hidp (la_pk HLA.out HP.out hk); replace HD := hidp (ownR_pk HD.out HP.out hk); replace H := hidp (M_pk2 H.out hk HP.out HGB.out HGC.out (by intro x hx; cases hx)); clear HP; have HP := hidp (show PostAt W9 b c 9 (L1.map (mkF now1 g)) g last1 lost1 from hp); rw [mls_map] at ho; have HA := hidp (ho.base (C := w.heap.size) HLE); clear ho; obtain ⟨aa, ac, hva⟩ := HA.out.rs.form; rw [hml] at hva; subst hva; clear hp hk HLE); (try simp only [Act.put, setIfInBounds_toArray, set_cons_zero, set_cons_succ]); have tk2 := hidp trivial))
          try clear tk2
          go_loopw [15, 84] (fun t15 t84 wr => ∃ (j : Nat) (l2 : List Int), t84 = .int .i64 (j : Int) ∧ t15 = .int .i64 ((nD L1 now1 g j : Nat) : Int) ∧ j ≤ nl ∧ PostAt wr b c 9 (L1.map (mkF now1 g)) g last1 lost1 ∧ LaAt wr w.heap.size (.slice (some ⟨BL, 0, none⟩) q c9) l2 ∧ OwnR 75 3 wr w.heap.size (.slice da nn dc) (mls (L1.filter fun x => dueB x now1 g)) ∧ OwnR 75 3 wr w.heap.size (.slice aa nl ac) (mls L1) ∧ Mm.M w.heap.size w wr [] ∧ In L1 la1 l2 now1 g (i + 1) j) (fun _ t84 _ => nl - (intOf t84).toNat)
          case atStart => exact ⟨0, la1, rfl, by simp [nD], Nat.zero_le _, HP.out, HLA.out, HD.out, HA.out, H.out, In.start HDV.out⟩
          case round =>
            obtain ⟨j, l2, rfl, rfl, hj, hp, hla2, hd, ha, hm, hin⟩ := hrel
            clear H HP HLA HD HA
            have HP := hidp hp; have HLA := hidp hla2; have HD := hidp hd; have HA := hidp ha; have H := hidp hm; have HIN := hidp hin
            have HNDL := hidp (show nD L1 now1 g j ≤ nn from by rw [← hnf]; exact nD_le L1 now1 g j)
            clear hp hla2 hd ha hm hin
            have hb9 := HNB.out; have hn9 := HNN.out
            by_cases hltj : j < nl
            · have e2 : decide ((j : Int) < (nl : Int)) = true := by simp; omega
              have hjL : j < L1.length := by omega
              have hjm : j < (mls L1).length := by omega
              obtain ⟨BA, oA, cA, eA, -, hBA, hrA⟩ := HA.out.rs.get (by omega)
              rw [hml] at eA
              simp only [Value.slice.injEq] at eA
              obtain ⟨rfl, -, rfl⟩ := eA
              have hrow := rAt_nth hrA (mls_all L1) j hjm
              rw [show (mls L1)[j] = (L1[j]).mail from by simp [mls]] at hrow
              have hmx := HDV.out.id _ (List.getElem_mem hjL)
              have hax := HDV.out.at_ _ (List.getElem_mem hjL)
              have hvx := HIN.out.old j hjL (Nat.le_refl _)
              have hyes := fun h => nD_yes (now := now1) (g := g) hjL h
              have hno_ := fun h => nD_no (now := now1) (g := g) hjL h
              have hdat := fun h => due_at (now := now1) (g := g) hjL h
              have hdne := fun h p hp => due_ne (now := now1) (g := g) HDV.out.nd hjL h p hp
              obtain ⟨⟨id, to, tx, sent, at_⟩, hx⟩ : ∃ x, L1[j] = x := ⟨_, rfl⟩
              rw [hx] at hrow hmx hax hvx hyes hno_ hdat hdne
              have hmx1 : 1 ≤ id ∧ id ≤ last1 := hmx
              obtain ⟨k, rfl⟩ : ∃ k : Nat, id = (k : Int) := ⟨id.toNat, by omega⟩
              have HROW := hidp (show _ from hrow)
              have hz0 : l2[k]? = some (vl g ⟨(k : Int), to, tx, sent, at_⟩) := by have h1 := hvx; simpa using h1
              obtain ⟨z, hzz⟩ : ∃ z, vl g ⟨(k : Int), to, tx, sent, at_⟩ = z := ⟨_, rfl⟩
              have hisd := is_due (g := g) hax
              rw [hzz] at hz0 hisd
              have hz := hz0
              have hzr := HIN.out.rg z (List.mem_of_getElem? hz0)
              have hQ1 := HQ1.out
              have hkq : k < q := by omega
              have HKL := hidp (show k < l2.length from by rw [HIN.out.len, hq]; exact hkq)
              have HQP := hidp (show 0 < l2.length from by have := HKL.out; omega)
              have e3 : decide ((k : Int) < 1) = false := by simp; omega
              have e4 : decide ((q : Int) ≤ (k : Int)) = false := by simp; omega
              have hno1 := HDV.out.no
              clear hrow hmx hax hvx hz0 hrA hBA hzz hmx1 hQ1
              cases hdue : dueB ⟨(k : Int), to, tx, sent, at_⟩ now1 g with
              | true =>
                rw [hdue] at hisd
                have hat1 := hyes hdue
                have hdat1 := hdat hdue
                clear hyes hno_ hdat hdne
                obtain ⟨at_n, hatn0⟩ : ∃ a, nD L1 now1 g j = a := ⟨_, rfl⟩
                rw [hatn0] at hat1 hdat1 HNDL
                have hatn : at_n < nn := by rw [← hnf]; exact (List.getElem?_eq_some_iff.1 hdat1).1
                have e5 : decide ((at_n : Int) < (nn : Int)) = true := by simp; omega
                simp only [hatn0]
                obtain ⟨p, hp0⟩ : ∃ p : Lt, p = ⟨(k : Int), to, tx, sent, at_⟩ := ⟨_, rfl⟩
                have heqm : eqM p ⟨(k : Int), to, tx, sent, at_⟩ = true := by rw [hp0]; exact eqM_refl _
                rw [← hp0] at hdat1
                have tk0 := hidp trivial
                go_upto_region 26 with (first | (clear tk0; (refine wpL_idxR tyM rfl (.tmp 82) (.tmp 84) rfl BA oA nl _ j rfl rfl hltj ?_); (try simp only [Act.put, setIfInBounds_toArray, set_cons_zero, set_cons_succ]); have tk1 := hidp trivial) | (clear tk1; (refine wpL_atR tyM rfl (.tmp 86) rfl BA (oA + 3 * j) [.int .i64 (k : Int), .int .i64 to, .string tx] rfl rfl HROW.out ?_); (try simp only [Act.put, setIfInBounds_toArray, set_cons_zero, set_cons_succ]); have tk2 := hidp trivial) | (clear tk2; (refine Mm.new rtM H (some 17) rfl rfl rfl ?_; clear H; intro b17 _ H nw; have NW := hidp nw; clear nw); (try simp only [Act.put, setIfInBounds_toArray, set_cons_zero, set_cons_succ]); have tk3 := hidp trivial) | (clear tk3; (refine Mm.put0 rtM H rfl (.tmp 17) (.tmp 87) [.int .i64 (k : Int), .int .i64 to, .string tx] rfl rfl rfl rfl (by simp [Value.oneCell']) rfl ?_; intro _ H2 st; have hb := NW.out.put st; replace HP := hidp (HP.out.to hb); replace HLA := hidp (Sl.own_to HLA.out hb); replace HD := hidp (HD.out.to hb (Nat.le_refl _)); replace HA := hidp (HA.out.to hb (Nat.le_refl _)); clear hb st NW H; have H := H2; clear H2); (try simp only [Act.put, setIfInBounds_toArray, set_cons_zero, set_cons_succ]); have tk4 := hidp trivial) | (clear tk4; (refine Mm.ld0 naI H rfl (.tmp 88) 0 (.int .i64 (k : Int)) rfl rfl rfl ?_); (try simp only [Act.put, setIfInBounds_toArray, set_cons_zero, set_cons_succ]); have tk5 := hidp trivial) | (clear tk5; (refine Mm.ld0 naI H rfl (.tmp 92) 0 (.int .i64 (k : Int)) rfl rfl rfl ?_); (try simp only [Act.put, setIfInBounds_toArray, set_cons_zero, set_cons_succ]); have tk6 := hidp trivial) | (clear tk6; (refine Mm.ld0 naI H rfl (.tmp 100) 0 (.int .i64 (k : Int)) rfl rfl rfl ?_); (try simp only [Act.put, setIfInBounds_toArray, set_cons_zero, set_cons_succ]); have tk7 := hidp trivial) | (clear tk7; (refine wpL_idx0 Try.underlying73 (by kernel_rfl) rfl (.tmp 99) (.tmp 101) rfl BL q _ k rfl rfl hkq ?_); (try simp only [Act.put, setIfInBounds_toArray, set_cons_zero, set_cons_succ]); have tk8 := hidp trivial) | (clear tk8; (refine Mm.ldc naI64 rfl (.tmp 102) ⟨BL, k, none⟩ (.int .i64 z) rfl rfl (la_cell HLA.out HQP.out k z hz) ?_); (try simp only [Act.put, setIfInBounds_toArray, set_cons_zero, set_cons_succ]); have tk9 := hidp trivial))
                try clear tk9
                obtain ⟨BD, oD, cD, eD, -, hBD, hrD⟩ := HD.out.rs.get (by rw [hnn]; omega)
                rw [hnn] at eD
                simp only [Value.slice.injEq] at eD
                obtain ⟨rfl, -, rfl⟩ := eD
                have HBD := hidp hBD
                have HDR := hidp (show _ from mail_at hrD hdat1)
                clear hrD hBD
                refine regionQ (S := fun W => Arr W b17 75 [.int .i64 (k : Int), .int .i64 to, .string tx] ∧ W.rangeAt BD (oD + 3 * at_n) p.mail) (.take 0 (.take 1 (.take 2 (.take 3 (.take 4 (.take 5 (.take 6 (.take 7 (.take 8 (.take 9 (.take 10 (.take 11 (.take 12 (.take 13 .done)))))))))))))) (by kernel_rfl) (by kernel_rfl) (by simp [Scr.depth]) (by kernel_rfl) ⟨H.out.drew.at0, rangeAt_below HDR.out (Below.refl _ _).drew HBD.out⟩ ?_
                replace H := hidp H.out.drew
                replace HP := hidp (HP.out.to (Below.refl _ _).drew)
                replace HLA := hidp (Sl.own_to HLA.out (Below.refl _ _).drew)
                replace HD := hidp (HD.out.to (Below.refl _ _).drew (Nat.le_refl _))
                replace HA := hidp (HA.out.to (Below.refl _ _).drew (Nat.le_refl _))
                apply s_val
                case ho | hw => rfl
                case hv => intro w hw; go_simp; first | done | rfl
                simp only [Act.put, getElem_toArray, getElem_cons_zero, getElem_cons_succ, setIfInBounds_toArray, set_cons_zero, set_cons_succ]
                apply s_val
                case ho | hw => rfl
                case hv => intro w hw; go_simp; first | done | rfl
                simp only [Act.put, getElem_toArray, getElem_cons_zero, getElem_cons_succ, setIfInBounds_toArray, set_cons_zero, set_cons_succ]
                apply s_val
                case ho | hw => rfl
                case hv => intro w hw; go_simp; first | done | rfl
                simp only [Act.put, getElem_toArray, getElem_cons_zero, getElem_cons_succ, setIfInBounds_toArray, set_cons_zero, set_cons_succ]
                apply s_val
                case ho | hw => rfl
                case hv => intro w hw; go_simp; first | done | rfl
                simp only [Act.put, getElem_toArray, getElem_cons_zero, getElem_cons_succ, setIfInBounds_toArray, set_cons_zero, set_cons_succ]
                apply s_val
                case ho | hw => rfl
                case hv => intro w hw; go_simp; first | done | rfl
                simp only [Act.put, getElem_toArray, getElem_cons_zero, getElem_cons_succ, setIfInBounds_toArray, set_cons_zero, set_cons_succ]
                apply s_val
                case ho | hw => rfl
                case hv => intro w hw; go_simp; first | done | rfl
                simp only [Act.put, getElem_toArray, getElem_cons_zero, getElem_cons_succ, setIfInBounds_toArray, set_cons_zero, set_cons_succ]
                apply s_val
                case ho | hw => rfl
                case hv => intro w hw; go_simp; first | done | rfl
                simp only [Act.put, getElem_toArray, getElem_cons_zero, getElem_cons_succ, setIfInBounds_toArray, set_cons_zero, set_cons_succ]
                apply s_val
                case ho | hw => rfl
                case hv => intro w hw; go_simp; first | done | rfl
                simp only [Act.put, getElem_toArray, getElem_cons_zero, getElem_cons_succ, setIfInBounds_toArray, set_cons_zero, set_cons_succ]
                refine s_idxR tyM rfl rfl (.tmp 113) (.tmp 114) rfl BD oD nn _ at_n rfl rfl hatn ?_
                simp only [Act.put, getElem_toArray, getElem_cons_zero, getElem_cons_succ, setIfInBounds_toArray, set_cons_zero, set_cons_succ]
                refine s_atR tyM rfl rfl (.tmp 115) rfl BD (oD + 3 * at_n) p.mail rfl rfl (fun W h => h.2) ?_
                simp only [Act.put, getElem_toArray, getElem_cons_zero, getElem_cons_succ, setIfInBounds_toArray, set_cons_zero, set_cons_succ]
                refine Rt.s_get rtM rfl rfl (.tmp 17) rfl b17 [.int .i64 (k : Int), .int .i64 to, .string tx] rfl rfl (fun W h => h.1) ?_
                simp only [Act.put, getElem_toArray, getElem_cons_zero, getElem_cons_succ, setIfInBounds_toArray, set_cons_zero, set_cons_succ]
                refine s_eqM rfl rfl (.tmp 116) (.tmp 117) _ rfl p ⟨(k : Int), to, tx, sent, at_⟩ rfl rfl ?_
                rw [heqm]
                simp only [Act.put, getElem_toArray, getElem_cons_zero, getElem_cons_succ, setIfInBounds_toArray, set_cons_zero, set_cons_succ]
                apply s_val
                case ho | hw => rfl
                case hv => intro w hw; go_simp; first | done | rfl
                simp only [Act.put, getElem_toArray, getElem_cons_zero, getElem_cons_succ, setIfInBounds_toArray, set_cons_zero, set_cons_succ]
                apply s_val
                case ho | hw => rfl
                case hv => intro w hw; go_simp; first | done | rfl
                simp only [Act.put, getElem_toArray, getElem_cons_zero, getElem_cons_succ, setIfInBounds_toArray, set_cons_zero, set_cons_succ]
                refine NoPanic.normal ?_
                obtain ⟨cur, hNB, harr, hcl, hset⟩ := la_arr2 HLA.out HQP.out
                have HARR := hidp harr; have HSET := hidp hset
                clear harr hset
                have tk0 := hidp trivial
                go_wp2_with (first | (clear tk0; (refine Mm.ld0 naI H rfl (.tmp 123) 0 (.int .i64 (k : Int)) rfl rfl rfl ?_); (try simp only [Act.put, setIfInBounds_toArray, set_cons_zero, set_cons_succ]); have tk1 := hidp trivial) | (clear tk1; (refine wpL_idx0 Try.underlying73 (by kernel_rfl) rfl (.tmp 122) (.tmp 124) rfl BL q _ k rfl rfl hkq ?_); (try simp only [Act.put, setIfInBounds_toArray, set_cons_zero, set_cons_succ]); have tk2 := hidp trivial) | (clear tk2; (refine Rt.wpL_putF rfl 2 (.tmp 126) (.tmp 125) rfl BL k (.int .i64 now1) rfl rfl (by kernel_rfl) rfl cur HARR.out (by have := HKL.out; omega) ?_; intro W9 ha9 st9; clear HLA; have HLA := hidp (HSET.out W9 k now1 HKL.out ha9); replace HP := hidp (PostAt.stp2 HP.out st9 HARR.out (by decide)); replace HD := hidp (OwnR.stpR HD.out st9 HARR.out (by decide)); replace HA := hidp (OwnR.stpR HA.out st9 HARR.out (by decide)); replace H := hidp (M_low H.out.tail (st9.below _ hNB) (Nat.le_of_eq st9.size.symm)); clear ha9 st9); (try simp only [Act.put, setIfInBounds_toArray, set_cons_zero, set_cons_succ]); have tk3 := hidp trivial))
                try clear tk3
                have hin := In.yes HDV.out HIN.out hjL (by rw [hx]; exact hdue)
                rw [hx] at hin
                exact ⟨⟨j + 1, _, by go_num, by rw [hat1]; go_num, by omega, HP.out, HLA.out, HD.out, HA.out, H.out, hin⟩, by simp [intOf]; omega⟩
              | false =>
                rw [hdue] at hisd
                have hat1 := hno_ hdue
                have hdne1 := hdne hdue
                clear hyes hno_ hdat hdne
                obtain ⟨at_n, hatn0⟩ : ∃ a, nD L1 now1 g j = a := ⟨_, rfl⟩
                rw [hatn0] at hat1 HNDL
                simp only [hatn0]
                by_cases hatn : at_n < nn
                · have e5 : decide ((at_n : Int) < (nn : Int)) = true := by simp; omega
                  obtain ⟨p, hp0⟩ : ∃ p, (L1.filter fun x => dueB x now1 g)[at_n]? = some p := ⟨_, List.getElem?_eq_getElem (by rw [hnf]; exact hatn)⟩
                  have heqm : eqM p ⟨(k : Int), to, tx, sent, at_⟩ = false := hdne1 p (List.mem_of_getElem? hp0)
                  clear hdne1
                  have tk0 := hidp trivial
                  go_upto_region 26 with (first | (clear tk0; (refine wpL_idxR tyM rfl (.tmp 82) (.tmp 84) rfl BA oA nl _ j rfl rfl hltj ?_); (try simp only [Act.put, setIfInBounds_toArray, set_cons_zero, set_cons_succ]); have tk1 := hidp trivial) | (clear tk1; (refine wpL_atR tyM rfl (.tmp 86) rfl BA (oA + 3 * j) [.int .i64 (k : Int), .int .i64 to, .string tx] rfl rfl HROW.out ?_); (try simp only [Act.put, setIfInBounds_toArray, set_cons_zero, set_cons_succ]); have tk2 := hidp trivial) | (clear tk2; (refine Mm.new rtM H (some 17) rfl rfl rfl ?_; clear H; intro b17 _ H nw; have NW := hidp nw; clear nw); (try simp only [Act.put, setIfInBounds_toArray, set_cons_zero, set_cons_succ]); have tk3 := hidp trivial) | (clear tk3; (refine Mm.put0 rtM H rfl (.tmp 17) (.tmp 87) [.int .i64 (k : Int), .int .i64 to, .string tx] rfl rfl rfl rfl (by simp [Value.oneCell']) rfl ?_; intro _ H2 st; have hb := NW.out.put st; replace HP := hidp (HP.out.to hb); replace HLA := hidp (Sl.own_to HLA.out hb); replace HD := hidp (HD.out.to hb (Nat.le_refl _)); replace HA := hidp (HA.out.to hb (Nat.le_refl _)); clear hb st NW H; have H := H2; clear H2); (try simp only [Act.put, setIfInBounds_toArray, set_cons_zero, set_cons_succ]); have tk4 := hidp trivial) | (clear tk4; (refine Mm.ld0 naI H rfl (.tmp 88) 0 (.int .i64 (k : Int)) rfl rfl rfl ?_); (try simp only [Act.put, setIfInBounds_toArray, set_cons_zero, set_cons_succ]); have tk5 := hidp trivial) | (clear tk5; (refine Mm.ld0 naI H rfl (.tmp 92) 0 (.int .i64 (k : Int)) rfl rfl rfl ?_); (try simp only [Act.put, setIfInBounds_toArray, set_cons_zero, set_cons_succ]); have tk6 := hidp trivial) | (clear tk6; (refine Mm.ld0 naI H rfl (.tmp 100) 0 (.int .i64 (k : Int)) rfl rfl rfl ?_); (try simp only [Act.put, setIfInBounds_toArray, set_cons_zero, set_cons_succ]); have tk7 := hidp trivial) | (clear tk7; (refine wpL_idx0 Try.underlying73 (by kernel_rfl) rfl (.tmp 99) (.tmp 101) rfl BL q _ k rfl rfl hkq ?_); (try simp only [Act.put, setIfInBounds_toArray, set_cons_zero, set_cons_succ]); have tk8 := hidp trivial) | (clear tk8; (refine Mm.ldc naI64 rfl (.tmp 102) ⟨BL, k, none⟩ (.int .i64 z) rfl rfl (la_cell HLA.out HQP.out k z hz) ?_); (try simp only [Act.put, setIfInBounds_toArray, set_cons_zero, set_cons_succ]); have tk9 := hidp trivial))
                  try clear tk9
                  obtain ⟨BD, oD, cD, eD, -, hBD, hrD⟩ := HD.out.rs.get (by rw [hnn]; omega)
                  rw [hnn] at eD
                  simp only [Value.slice.injEq] at eD
                  obtain ⟨rfl, -, rfl⟩ := eD
                  have HBD := hidp hBD
                  have HDR := hidp (show _ from mail_at hrD hp0)
                  clear hrD hBD
                  refine regionQ (S := fun W => Arr W b17 75 [.int .i64 (k : Int), .int .i64 to, .string tx] ∧ W.rangeAt BD (oD + 3 * at_n) p.mail) (.take 0 (.take 1 (.take 2 (.take 3 (.take 4 (.take 5 (.take 6 (.take 7 (.take 8 (.take 9 (.take 10 (.take 11 (.take 12 (.take 13 .done)))))))))))))) (by kernel_rfl) (by kernel_rfl) (by simp [Scr.depth]) (by kernel_rfl) ⟨H.out.drew.at0, rangeAt_below HDR.out (Below.refl _ _).drew HBD.out⟩ ?_
                  replace H := hidp H.out.drew
                  replace HP := hidp (HP.out.to (Below.refl _ _).drew)
                  replace HLA := hidp (Sl.own_to HLA.out (Below.refl _ _).drew)
                  replace HD := hidp (HD.out.to (Below.refl _ _).drew (Nat.le_refl _))
                  replace HA := hidp (HA.out.to (Below.refl _ _).drew (Nat.le_refl _))
                  apply s_val
                  case ho | hw => rfl
                  case hv => intro w hw; go_simp; first | done | rfl
                  simp only [Act.put, getElem_toArray, getElem_cons_zero, getElem_cons_succ, setIfInBounds_toArray, set_cons_zero, set_cons_succ]
                  apply s_val
                  case ho | hw => rfl
                  case hv => intro w hw; go_simp; first | done | rfl
                  simp only [Act.put, getElem_toArray, getElem_cons_zero, getElem_cons_succ, setIfInBounds_toArray, set_cons_zero, set_cons_succ]
                  apply s_val
                  case ho | hw => rfl
                  case hv => intro w hw; go_simp; first | done | rfl
                  simp only [Act.put, getElem_toArray, getElem_cons_zero, getElem_cons_succ, setIfInBounds_toArray, set_cons_zero, set_cons_succ]
                  apply s_val
                  case ho | hw => rfl
                  case hv => intro w hw; go_simp; first | done | rfl
                  simp only [Act.put, getElem_toArray, getElem_cons_zero, getElem_cons_succ, setIfInBounds_toArray, set_cons_zero, set_cons_succ]
                  apply s_val
                  case ho | hw => rfl
                  case hv => intro w hw; go_simp; first | done | rfl
                  simp only [Act.put, getElem_toArray, getElem_cons_zero, getElem_cons_succ, setIfInBounds_toArray, set_cons_zero, set_cons_succ]
                  apply s_val
                  case ho | hw => rfl
                  case hv => intro w hw; go_simp; first | done | rfl
                  simp only [Act.put, getElem_toArray, getElem_cons_zero, getElem_cons_succ, setIfInBounds_toArray, set_cons_zero, set_cons_succ]
                  apply s_val
                  case ho | hw => rfl
                  case hv => intro w hw; go_simp; first | done | rfl
                  simp only [Act.put, getElem_toArray, getElem_cons_zero, getElem_cons_succ, setIfInBounds_toArray, set_cons_zero, set_cons_succ]
                  apply s_val
                  case ho | hw => rfl
                  case hv => intro w hw; go_simp; first | done | rfl
                  simp only [Act.put, getElem_toArray, getElem_cons_zero, getElem_cons_succ, setIfInBounds_toArray, set_cons_zero, set_cons_succ]
                  refine s_idxR tyM rfl rfl (.tmp 113) (.tmp 114) rfl BD oD nn _ at_n rfl rfl hatn ?_
                  simp only [Act.put, getElem_toArray, getElem_cons_zero, getElem_cons_succ, setIfInBounds_toArray, set_cons_zero, set_cons_succ]
                  refine s_atR tyM rfl rfl (.tmp 115) rfl BD (oD + 3 * at_n) p.mail rfl rfl (fun W h => h.2) ?_
                  simp only [Act.put, getElem_toArray, getElem_cons_zero, getElem_cons_succ, setIfInBounds_toArray, set_cons_zero, set_cons_succ]
                  refine Rt.s_get rtM rfl rfl (.tmp 17) rfl b17 [.int .i64 (k : Int), .int .i64 to, .string tx] rfl rfl (fun W h => h.1) ?_
                  simp only [Act.put, getElem_toArray, getElem_cons_zero, getElem_cons_succ, setIfInBounds_toArray, set_cons_zero, set_cons_succ]
                  refine s_eqM rfl rfl (.tmp 116) (.tmp 117) _ rfl p ⟨(k : Int), to, tx, sent, at_⟩ rfl rfl ?_
                  rw [heqm]
                  simp only [Act.put, getElem_toArray, getElem_cons_zero, getElem_cons_succ, setIfInBounds_toArray, set_cons_zero, set_cons_succ]
                  apply s_val
                  case ho | hw => rfl
                  case hv => intro w hw; go_simp; first | done | rfl
                  simp only [Act.put, getElem_toArray, getElem_cons_zero, getElem_cons_succ, setIfInBounds_toArray, set_cons_zero, set_cons_succ]
                  apply s_val
                  case ho | hw => rfl
                  case hv => intro w hw; go_simp; first | done | rfl
                  simp only [Act.put, getElem_toArray, getElem_cons_zero, getElem_cons_succ, setIfInBounds_toArray, set_cons_zero, set_cons_succ]
                  refine NoPanic.normal ?_
                  go_wp2_with fail
                  exact ⟨⟨j + 1, _, by go_num, by rw [hat1], by omega, HP.out, HLA.out, HD.out, HA.out, H.out.tail, In.no HIN.out hjL (by rw [hx]; exact hdue)⟩, by simp [intOf]; omega⟩
                · have e5 : decide ((at_n : Int) < (nn : Int)) = false := by simp; omega
                  clear hdne1
                  have tk0 := hidp trivial
                  go_upto_region 26 with (first | (clear tk0; (refine wpL_idxR tyM rfl (.tmp 82) (.tmp 84) rfl BA oA nl _ j rfl rfl hltj ?_); (try simp only [Act.put, setIfInBounds_toArray, set_cons_zero, set_cons_succ]); have tk1 := hidp trivial) | (clear tk1; (refine wpL_atR tyM rfl (.tmp 86) rfl BA (oA + 3 * j) [.int .i64 (k : Int), .int .i64 to, .string tx] rfl rfl HROW.out ?_); (try simp only [Act.put, setIfInBounds_toArray, set_cons_zero, set_cons_succ]); have tk2 := hidp trivial) | (clear tk2; (refine Mm.new rtM H (some 17) rfl rfl rfl ?_; clear H; intro b17 _ H nw; have NW := hidp nw; clear nw); (try simp only [Act.put, setIfInBounds_toArray, set_cons_zero, set_cons_succ]); have tk3 := hidp trivial) | (clear tk3; (refine Mm.put0 rtM H rfl (.tmp 17) (.tmp 87) [.int .i64 (k : Int), .int .i64 to, .string tx] rfl rfl rfl rfl (by simp [Value.oneCell']) rfl ?_; intro _ H2 st; have hb := NW.out.put st; replace HP := hidp (HP.out.to hb); replace HLA := hidp (Sl.own_to HLA.out hb); replace HD := hidp (HD.out.to hb (Nat.le_refl _)); replace HA := hidp (HA.out.to hb (Nat.le_refl _)); clear hb st NW H; have H := H2; clear H2); (try simp only [Act.put, setIfInBounds_toArray, set_cons_zero, set_cons_succ]); have tk4 := hidp trivial) | (clear tk4; (refine Mm.ld0 naI H rfl (.tmp 88) 0 (.int .i64 (k : Int)) rfl rfl rfl ?_); (try simp only [Act.put, setIfInBounds_toArray, set_cons_zero, set_cons_succ]); have tk5 := hidp trivial) | (clear tk5; (refine Mm.ld0 naI H rfl (.tmp 92) 0 (.int .i64 (k : Int)) rfl rfl rfl ?_); (try simp only [Act.put, setIfInBounds_toArray, set_cons_zero, set_cons_succ]); have tk6 := hidp trivial) | (clear tk6; (refine Mm.ld0 naI H rfl (.tmp 100) 0 (.int .i64 (k : Int)) rfl rfl rfl ?_); (try simp only [Act.put, setIfInBounds_toArray, set_cons_zero, set_cons_succ]); have tk7 := hidp trivial) | (clear tk7; (refine wpL_idx0 Try.underlying73 (by kernel_rfl) rfl (.tmp 99) (.tmp 101) rfl BL q _ k rfl rfl hkq ?_); (try simp only [Act.put, setIfInBounds_toArray, set_cons_zero, set_cons_succ]); have tk8 := hidp trivial) | (clear tk8; (refine Mm.ldc naI64 rfl (.tmp 102) ⟨BL, k, none⟩ (.int .i64 z) rfl rfl (la_cell HLA.out HQP.out k z hz) ?_); (try simp only [Act.put, setIfInBounds_toArray, set_cons_zero, set_cons_succ]); have tk9 := hidp trivial))
                  try clear tk9
                  refine regionQ (S := fun W => Arr W b17 75 [.int .i64 (k : Int), .int .i64 to, .string tx]) (.take 0 (.take 1 (.take 2 (.take 3 (.take 4 (.take 5 (.take 6 (.take 7 (.take 8 (.take 9 (.take 10 (.take 11 (.take 12 (.take 13 .done)))))))))))))) (by kernel_rfl) (by kernel_rfl) (by simp [Scr.depth]) (by kernel_rfl) H.out.drew.at0 ?_
                  replace H := hidp H.out.drew
                  replace HP := hidp (HP.out.to (Below.refl _ _).drew)
                  replace HLA := hidp (Sl.own_to HLA.out (Below.refl _ _).drew)
                  replace HD := hidp (HD.out.to (Below.refl _ _).drew (Nat.le_refl _))
                  replace HA := hidp (HA.out.to (Below.refl _ _).drew (Nat.le_refl _))
                  apply s_val
                  case ho | hw => rfl
                  case hv => intro w hw; go_simp; first | done | rfl
                  simp only [Act.put, getElem_toArray, getElem_cons_zero, getElem_cons_succ, setIfInBounds_toArray, set_cons_zero, set_cons_succ]
                  apply s_val
                  case ho | hw => rfl
                  case hv => intro w hw; go_simp; first | done | rfl
                  simp only [Act.put, getElem_toArray, getElem_cons_zero, getElem_cons_succ, setIfInBounds_toArray, set_cons_zero, set_cons_succ]
                  apply s_val
                  case ho | hw => rfl
                  case hv => intro w hw; go_simp; first | done | rfl
                  simp only [Act.put, getElem_toArray, getElem_cons_zero, getElem_cons_succ, setIfInBounds_toArray, set_cons_zero, set_cons_succ]
                  apply s_val
                  case ho | hw => rfl
                  case hv => intro w hw; go_simp; first | done | rfl
                  simp only [Act.put, getElem_toArray, getElem_cons_zero, getElem_cons_succ, setIfInBounds_toArray, set_cons_zero, set_cons_succ]
                  apply s_val
                  case ho | hw => rfl
                  case hv => intro w hw; go_simp; first | done | rfl
                  simp only [Act.put, getElem_toArray, getElem_cons_zero, getElem_cons_succ, setIfInBounds_toArray, set_cons_zero, set_cons_succ]
                  apply s_val
                  case ho | hw => rfl
                  case hv => intro w hw; go_simp; first | done | rfl
                  simp only [Act.put, getElem_toArray, getElem_cons_zero, getElem_cons_succ, setIfInBounds_toArray, set_cons_zero, set_cons_succ]
                  refine Rt.s_skip rfl rfl ?_
                  simp only [Act.put, getElem_toArray, getElem_cons_zero, getElem_cons_succ, setIfInBounds_toArray, set_cons_zero, set_cons_succ]
                  refine Rt.s_skip rfl rfl ?_
                  simp only [Act.put, getElem_toArray, getElem_cons_zero, getElem_cons_succ, setIfInBounds_toArray, set_cons_zero, set_cons_succ]
                  refine Rt.s_skip rfl rfl ?_
                  simp only [Act.put, getElem_toArray, getElem_cons_zero, getElem_cons_succ, setIfInBounds_toArray, set_cons_zero, set_cons_succ]
                  refine Rt.s_skip rfl rfl ?_
                  simp only [Act.put, getElem_toArray, getElem_cons_zero, getElem_cons_succ, setIfInBounds_toArray, set_cons_zero, set_cons_succ]
                  refine Rt.s_skip rfl rfl ?_
                  simp only [Act.put, getElem_toArray, getElem_cons_zero, getElem_cons_succ, setIfInBounds_toArray, set_cons_zero, set_cons_succ]
                  refine Rt.s_skip rfl rfl ?_
                  simp only [Act.put, getElem_toArray, getElem_cons_zero, getElem_cons_succ, setIfInBounds_toArray, set_cons_zero, set_cons_succ]
                  apply s_val
                  case ho | hw => rfl
                  case hv => intro w hw; go_simp; first | done | rfl
                  simp only [Act.put, getElem_toArray, getElem_cons_zero, getElem_cons_succ, setIfInBounds_toArray, set_cons_zero, set_cons_succ]
                  apply s_val
                  case ho | hw => rfl
                  case hv => intro w hw; go_simp; first | done | rfl
                  simp only [Act.put, getElem_toArray, getElem_cons_zero, getElem_cons_succ, setIfInBounds_toArray, set_cons_zero, set_cons_succ]
                  refine NoPanic.normal ?_
                  go_wp2_with fail
                  exact ⟨⟨j + 1, _, by go_num, by rw [hat1], by omega, HP.out, HLA.out, HD.out, HA.out, H.out.tail, In.no HIN.out hjL (by rw [hx]; exact hdue)⟩, by simp [intOf]; omega⟩
            · have e2 : decide ((j : Int) < (nl : Int)) = false := by simp; omega
              obtain rfl : j = nl := by omega
              have hall : nD L1 now1 g j = nn := by rw [← hnl, nD_all, hnf]
              rw [← hnl] at HIN
              simp only [hall]
              have hne := bne_refl2 (nn : Int)
              have hqn : (q : Int) ≠ 0 := by have h1 := HQ1.out; have h2 := HDV.out.la_; omega
              have hqp : (0 : Int) < (q : Int) := by have h1 := HQ1.out; have h2 := HDV.out.la_; omega
              have hl2 : l2.length = q := by rw [HIN.out.len, hq]
              by_cases h2 : 200 ≤ s
              · have e6 : decide ((200 : Int) ≤ s) = true := by simp; omega
                have tk0 := hidp trivial
                go_wp2_with (first | (clear tk0; (go_at_call 31; refine (done_any _ b c 9 (L1.map (mkF now1 g)) g last1 lost1 HP.out HCP2.out HLB3.out (s % (q : Int))).mono ?_; rintro e W9 ⟨rfl, hp, hk⟩; replace HLA := hidp (la_pk HLA.out HP.out hk); replace H := hidp (M_pk2 H.out hk HP.out HGB.out HGC.out (by intro x hx; cases hx)); clear HP; have HP := hidp hp; clear hp hk); (try simp only [Act.put, setIfInBounds_toArray, set_cons_zero, set_cons_succ]); have tk1 := hidp trivial))
                try clear tk1
                exact ⟨⟨i + 1, now1, (dnL (L1.map (mkF now1 g)) (s % (q : Int))), l2, last1, lost1, by go_num, rfl, by omega, HP.out, HLA.out, H.out, (In.fin HDV.out HIN.out).done _⟩, by simp [intOf]; omega⟩
              · have e6 : decide ((200 : Int) ≤ s) = false := by simp; omega
                go_wp2_with fail
                exact ⟨⟨i + 1, now1, (L1.map (mkF now1 g)), l2, last1, lost1, by go_num, rfl, by omega, HP.out, HLA.out, H.out, In.fin HDV.out HIN.out⟩, by simp [intOf]; omega⟩
        · have hfl : 9 ≤ L.length := by omega
          clear hfl0
          have HDV := hidp (Dv.full hdv (s % 16) (by omega))
          have tk0 := hidp trivial
          go_upto_region 18 with (first | (clear tk0; (refine Sl.wpL_idx1 Try.underlying72 (by kernel_rfl) rfl (.tmp 48) (.tmp 50) rfl BK off m _ i rfl rfl hlt ?_); (try simp only [Act.put, setIfInBounds_toArray, set_cons_zero, set_cons_succ]); have tk1 := hidp trivial) | (clear tk1; (refine Mm.ldc naU8 rfl (.tmp 53) ⟨BK, off + i, none⟩ (.int .u8 s) rfl rfl ((H.out.below.cell HBK.out).trans HSC.out) ?_); (try simp only [Act.put, setIfInBounds_toArray, set_cons_zero, set_cons_succ]); have tk2 := hidp trivial) | (clear tk2; (go_at_call 26; refine (put_fullP _ b c 9 L g last lost HP.out hfl hla hlo ((i : Int) % 4) (⟨#[120]⟩ : ByteArray) (by decide) hpk).mono ?_; rintro e W9 ⟨rfl, hp, hk⟩; replace HLA := hidp (la_pk HLA.out HP.out hk); replace H := hidp (M_pk2 H.out hk HP.out HGB.out HGC.out (by intro x hx; cases hx)); clear HP; have HP := hidp (show PostAt W9 b c 9 L g last (lost + 1) from hp); clear hp hk); (try simp only [Act.put, setIfInBounds_toArray, set_cons_zero, set_cons_succ]); have tk3 := hidp trivial))
          try clear tk3
          obtain ⟨L1, hL1⟩ : ∃ l, L = l := ⟨_, rfl⟩
          obtain ⟨la1, hla1⟩ : ∃ l, la = l := ⟨_, rfl⟩
          obtain ⟨now1, hnow1⟩ : ∃ z, now + s % 16 = z := ⟨_, rfl⟩
          obtain ⟨last1, hlast1⟩ : ∃ z, (last : Int) = z := ⟨_, rfl⟩
          obtain ⟨lost1, hlost1⟩ : ∃ z, lost + 1 = z := ⟨_, rfl⟩
          rw [hnow1, hlost1, hL1, hla1, hlast1] at HDV
          rw [hlost1, hL1, hlast1] at HP
          rw [hla1] at HLA
          simp only [hnow1]
          have HAT := hidp (show ∀ x ∈ L1, 0 ≤ x.at_ ∧ x.at_ ≤ 1099511627776 from fun x hx => by have h1 := HDV.out.at_ x hx; have h2 := HDV.out.no; omega)
          have HLB := hidp (show L1.length ≤ 1048575 from by have := HDV.out.cap; omega)
          have hnk : nowOk now1 = true := by have h2 := HDV.out.no; simp [nowOk]; omega
          have HCP2 := hidp (show (L1.map (mkF now1 g)).length ≤ 9 from by rw [List.length_map]; exact HDV.out.cap)
          have HLB2 := hidp (show (L1.map (mkF now1 g)).length ≤ 1048575 from by have := HCP2.out; omega)
          have HLB3 := hidp (show (L1.map (mkF now1 g)).length ≤ 1048576 from by have := HCP2.out; omega)
          have HSZ2 := hidp (show ∀ x ∈ L1.map (mkF now1 g), x.tx.size ≤ 140737488351232 from fun x hx => by obtain ⟨y, hy, rfl⟩ := List.mem_map.1 hx; have e2 : (mkF now1 g y).tx = y.tx := (by unfold mkF mkD; split <;> rfl); rw [e2]; exact HDV.out.sz y hy)
          obtain ⟨nn, hnn⟩ : ∃ nn, (mls (L1.filter fun x => dueB x now1 g)).length = nn := ⟨_, rfl⟩
          obtain ⟨nl, hml⟩ : ∃ nl, (mls L1).length = nl := ⟨_, rfl⟩
          have hnl : L1.length = nl := by rw [← hml]; simp [mls]
          have hnf : (L1.filter fun x => dueB x now1 g).length = nn := by rw [← hnn]; simp [mls]
          have HNB := hidp (show nl ≤ 9 from by rw [← hnl]; exact HDV.out.cap)
          have HNN := hidp (show nn ≤ 9 from by have h1 := HNB.out; have h2 := List.length_filter_le (fun x => dueB x now1 g) L1; omega)
          obtain ⟨q, hq⟩ : ∃ q, la1.length = q := ⟨_, rfl⟩
          have HQ1 := hidp (show (q : Int) = last1 + 1 from by rw [← hq]; exact HDV.out.len)
          have HQL := hidp (show (q : Int) ≤ 1000 from by have h1 := HQ1.out; have h2 := HDV.out.la_; omega)
          obtain ⟨BL, c9, hv9, -, -, -⟩ := la_get HLA.out (by have h1 := HQ1.out; have h2 := HDV.out.la_; omega)
          rw [hq] at hv9
          first | subst hv9 | (simp only [Value.slice.injEq] at hv9; obtain ⟨rfl, hqe, rfl⟩ := hv9; rw [hqe] at HLA ⊢)
          have tk0 := hidp trivial
          go_wp2_with (first | (clear tk0; (go_at_call 29; refine (dueP_any _ b c 9 L1 g last1 lost1 HP.out HDV.out.cap HLB.out HDV.out.sz HAT.out now1 hnk).mono ?_; have HLE := H.out.le; rintro e W9 ⟨vd, rfl, ho, hp, hk⟩; replace HLA := hidp (la_pk HLA.out HP.out hk); replace H := hidp (M_pk2 H.out hk HP.out HGB.out HGC.out (by intro x hx; cases hx)); clear HP; have HP := hidp (show PostAt W9 b c 9 (L1.map (mkF now1 g)) g last1 lost1 from hp); have HD := hidp (ho.base (C := w.heap.size) HLE); clear ho; obtain ⟨da, dc, hvd⟩ := HD.out.rs.form; rw [hnn] at hvd; subst hvd; clear hp hk HLE); (try simp only [Act.put, setIfInBounds_toArray, set_cons_zero, set_cons_succ]); have tk1 := hidp trivial) | (clear tk1; (go_at_call 33; refine (all_any _ b c 9 (L1.map (mkF now1 g)) g last1 lost1 HP.out HCP2.out HLB2.out HSZ2.out).mono ?_; have HLE := H.out.le; rintro e W9 ⟨va, rfl, ho, hp, hk⟩; replace HLA := hidp (la_pk HLA.out HP.out hk); replace HD := hidp (ownR_pk HD.out HP.out hk); replace H := hidp (M_pk2 H.out hk HP.out HGB.out HGC.out (by intro x hx; cases hx)); clear HP; have HP := hidp (show PostAt W9 b c 9 (L1.map (mkF now1 g)) g last1 lost1 from hp); rw [mls_map] at ho; have HA := hidp (ho.base (C := w.heap.size) HLE); clear ho; obtain ⟨aa, ac, hva⟩ := HA.out.rs.form; rw [hml] at hva; subst hva; clear hp hk HLE); (try simp only [Act.put, setIfInBounds_toArray, set_cons_zero, set_cons_succ]); have tk2 := hidp trivial))
          try clear tk2
          go_loopw [15, 84] (fun t15 t84 wr => ∃ (j : Nat) (l2 : List Int), t84 = .int .i64 (j : Int) ∧ t15 = .int .i64 ((nD L1 now1 g j : Nat) : Int) ∧ j ≤ nl ∧ PostAt wr b c 9 (L1.map (mkF now1 g)) g last1 lost1 ∧ LaAt wr w.heap.size (.slice (some ⟨BL, 0, none⟩) q c9) l2 ∧ OwnR 75 3 wr w.heap.size (.slice da nn dc) (mls (L1.filter fun x => dueB x now1 g)) ∧ OwnR 75 3 wr w.heap.size (.slice aa nl ac) (mls L1) ∧ Mm.M w.heap.size w wr [] ∧ In L1 la1 l2 now1 g (i + 1) j) (fun _ t84 _ => nl - (intOf t84).toNat)
          case atStart => exact ⟨0, la1, rfl, by simp [nD], Nat.zero_le _, HP.out, HLA.out, HD.out, HA.out, H.out, In.start HDV.out⟩
          case round =>
            obtain ⟨j, l2, rfl, rfl, hj, hp, hla2, hd, ha, hm, hin⟩ := hrel
            clear H HP HLA HD HA
            have HP := hidp hp; have HLA := hidp hla2; have HD := hidp hd; have HA := hidp ha; have H := hidp hm; have HIN := hidp hin
            have HNDL := hidp (show nD L1 now1 g j ≤ nn from by rw [← hnf]; exact nD_le L1 now1 g j)
            clear hp hla2 hd ha hm hin
            have hb9 := HNB.out; have hn9 := HNN.out
            by_cases hltj : j < nl
            · have e2 : decide ((j : Int) < (nl : Int)) = true := by simp; omega
              have hjL : j < L1.length := by omega
              have hjm : j < (mls L1).length := by omega
              obtain ⟨BA, oA, cA, eA, -, hBA, hrA⟩ := HA.out.rs.get (by omega)
              rw [hml] at eA
              simp only [Value.slice.injEq] at eA
              obtain ⟨rfl, -, rfl⟩ := eA
              have hrow := rAt_nth hrA (mls_all L1) j hjm
              rw [show (mls L1)[j] = (L1[j]).mail from by simp [mls]] at hrow
              have hmx := HDV.out.id _ (List.getElem_mem hjL)
              have hax := HDV.out.at_ _ (List.getElem_mem hjL)
              have hvx := HIN.out.old j hjL (Nat.le_refl _)
              have hyes := fun h => nD_yes (now := now1) (g := g) hjL h
              have hno_ := fun h => nD_no (now := now1) (g := g) hjL h
              have hdat := fun h => due_at (now := now1) (g := g) hjL h
              have hdne := fun h p hp => due_ne (now := now1) (g := g) HDV.out.nd hjL h p hp
              obtain ⟨⟨id, to, tx, sent, at_⟩, hx⟩ : ∃ x, L1[j] = x := ⟨_, rfl⟩
              rw [hx] at hrow hmx hax hvx hyes hno_ hdat hdne
              have hmx1 : 1 ≤ id ∧ id ≤ last1 := hmx
              obtain ⟨k, rfl⟩ : ∃ k : Nat, id = (k : Int) := ⟨id.toNat, by omega⟩
              have HROW := hidp (show _ from hrow)
              have hz0 : l2[k]? = some (vl g ⟨(k : Int), to, tx, sent, at_⟩) := by have h1 := hvx; simpa using h1
              obtain ⟨z, hzz⟩ : ∃ z, vl g ⟨(k : Int), to, tx, sent, at_⟩ = z := ⟨_, rfl⟩
              have hisd := is_due (g := g) hax
              rw [hzz] at hz0 hisd
              have hz := hz0
              have hzr := HIN.out.rg z (List.mem_of_getElem? hz0)
              have hQ1 := HQ1.out
              have hkq : k < q := by omega
              have HKL := hidp (show k < l2.length from by rw [HIN.out.len, hq]; exact hkq)
              have HQP := hidp (show 0 < l2.length from by have := HKL.out; omega)
              have e3 : decide ((k : Int) < 1) = false := by simp; omega
              have e4 : decide ((q : Int) ≤ (k : Int)) = false := by simp; omega
              have hno1 := HDV.out.no
              clear hrow hmx hax hvx hz0 hrA hBA hzz hmx1 hQ1
              cases hdue : dueB ⟨(k : Int), to, tx, sent, at_⟩ now1 g with
              | true =>
                rw [hdue] at hisd
                have hat1 := hyes hdue
                have hdat1 := hdat hdue
                clear hyes hno_ hdat hdne
                obtain ⟨at_n, hatn0⟩ : ∃ a, nD L1 now1 g j = a := ⟨_, rfl⟩
                rw [hatn0] at hat1 hdat1 HNDL
                have hatn : at_n < nn := by rw [← hnf]; exact (List.getElem?_eq_some_iff.1 hdat1).1
                have e5 : decide ((at_n : Int) < (nn : Int)) = true := by simp; omega
                simp only [hatn0]
                obtain ⟨p, hp0⟩ : ∃ p : Lt, p = ⟨(k : Int), to, tx, sent, at_⟩ := ⟨_, rfl⟩
                have heqm : eqM p ⟨(k : Int), to, tx, sent, at_⟩ = true := by rw [hp0]; exact eqM_refl _
                rw [← hp0] at hdat1
                have tk0 := hidp trivial
                go_upto_region 26 with (first | (clear tk0; (refine wpL_idxR tyM rfl (.tmp 82) (.tmp 84) rfl BA oA nl _ j rfl rfl hltj ?_); (try simp only [Act.put, setIfInBounds_toArray, set_cons_zero, set_cons_succ]); have tk1 := hidp trivial) | (clear tk1; (refine wpL_atR tyM rfl (.tmp 86) rfl BA (oA + 3 * j) [.int .i64 (k : Int), .int .i64 to, .string tx] rfl rfl HROW.out ?_); (try simp only [Act.put, setIfInBounds_toArray, set_cons_zero, set_cons_succ]); have tk2 := hidp trivial) | (clear tk2; (refine Mm.new rtM H (some 17) rfl rfl rfl ?_; clear H; intro b17 _ H nw; have NW := hidp nw; clear nw); (try simp only [Act.put, setIfInBounds_toArray, set_cons_zero, set_cons_succ]); have tk3 := hidp trivial) | (clear tk3; (refine Mm.put0 rtM H rfl (.tmp 17) (.tmp 87) [.int .i64 (k : Int), .int .i64 to, .string tx] rfl rfl rfl rfl (by simp [Value.oneCell']) rfl ?_; intro _ H2 st; have hb := NW.out.put st; replace HP := hidp (HP.out.to hb); replace HLA := hidp (Sl.own_to HLA.out hb); replace HD := hidp (HD.out.to hb (Nat.le_refl _)); replace HA := hidp (HA.out.to hb (Nat.le_refl _)); clear hb st NW H; have H := H2; clear H2); (try simp only [Act.put, setIfInBounds_toArray, set_cons_zero, set_cons_succ]); have tk4 := hidp trivial) | (clear tk4; (refine Mm.ld0 naI H rfl (.tmp 88) 0 (.int .i64 (k : Int)) rfl rfl rfl ?_); (try simp only [Act.put, setIfInBounds_toArray, set_cons_zero, set_cons_succ]); have tk5 := hidp trivial) | (clear tk5; (refine Mm.ld0 naI H rfl (.tmp 92) 0 (.int .i64 (k : Int)) rfl rfl rfl ?_); (try simp only [Act.put, setIfInBounds_toArray, set_cons_zero, set_cons_succ]); have tk6 := hidp trivial) | (clear tk6; (refine Mm.ld0 naI H rfl (.tmp 100) 0 (.int .i64 (k : Int)) rfl rfl rfl ?_); (try simp only [Act.put, setIfInBounds_toArray, set_cons_zero, set_cons_succ]); have tk7 := hidp trivial) | (clear tk7; (refine wpL_idx0 Try.underlying73 (by kernel_rfl) rfl (.tmp 99) (.tmp 101) rfl BL q _ k rfl rfl hkq ?_); (try simp only [Act.put, setIfInBounds_toArray, set_cons_zero, set_cons_succ]); have tk8 := hidp trivial) | (clear tk8; (refine Mm.ldc naI64 rfl (.tmp 102) ⟨BL, k, none⟩ (.int .i64 z) rfl rfl (la_cell HLA.out HQP.out k z hz) ?_); (try simp only [Act.put, setIfInBounds_toArray, set_cons_zero, set_cons_succ]); have tk9 := hidp trivial))
                try clear tk9
                obtain ⟨BD, oD, cD, eD, -, hBD, hrD⟩ := HD.out.rs.get (by rw [hnn]; omega)
                rw [hnn] at eD
                simp only [Value.slice.injEq] at eD
                obtain ⟨rfl, -, rfl⟩ := eD
                have HBD := hidp hBD
                have HDR := hidp (show _ from mail_at hrD hdat1)
                clear hrD hBD
                refine regionQ (S := fun W => Arr W b17 75 [.int .i64 (k : Int), .int .i64 to, .string tx] ∧ W.rangeAt BD (oD + 3 * at_n) p.mail) (.take 0 (.take 1 (.take 2 (.take 3 (.take 4 (.take 5 (.take 6 (.take 7 (.take 8 (.take 9 (.take 10 (.take 11 (.take 12 (.take 13 .done)))))))))))))) (by kernel_rfl) (by kernel_rfl) (by simp [Scr.depth]) (by kernel_rfl) ⟨H.out.drew.at0, rangeAt_below HDR.out (Below.refl _ _).drew HBD.out⟩ ?_
                replace H := hidp H.out.drew
                replace HP := hidp (HP.out.to (Below.refl _ _).drew)
                replace HLA := hidp (Sl.own_to HLA.out (Below.refl _ _).drew)
                replace HD := hidp (HD.out.to (Below.refl _ _).drew (Nat.le_refl _))
                replace HA := hidp (HA.out.to (Below.refl _ _).drew (Nat.le_refl _))
                apply s_val
                case ho | hw => rfl
                case hv => intro w hw; go_simp; first | done | rfl
                simp only [Act.put, getElem_toArray, getElem_cons_zero, getElem_cons_succ, setIfInBounds_toArray, set_cons_zero, set_cons_succ]
                apply s_val
                case ho | hw => rfl
                case hv => intro w hw; go_simp; first | done | rfl
                simp only [Act.put, getElem_toArray, getElem_cons_zero, getElem_cons_succ, setIfInBounds_toArray, set_cons_zero, set_cons_succ]
                apply s_val
                case ho | hw => rfl
                case hv => intro w hw; go_simp; first | done | rfl
                simp only [Act.put, getElem_toArray, getElem_cons_zero, getElem_cons_succ, setIfInBounds_toArray, set_cons_zero, set_cons_succ]
                apply s_val
                case ho | hw => rfl
                case hv => intro w hw; go_simp; first | done | rfl
                simp only [Act.put, getElem_toArray, getElem_cons_zero, getElem_cons_succ, setIfInBounds_toArray, set_cons_zero, set_cons_succ]
                apply s_val
                case ho | hw => rfl
                case hv => intro w hw; go_simp; first | done | rfl
                simp only [Act.put, getElem_toArray, getElem_cons_zero, getElem_cons_succ, setIfInBounds_toArray, set_cons_zero, set_cons_succ]
                apply s_val
                case ho | hw => rfl
                case hv => intro w hw; go_simp; first | done | rfl
                simp only [Act.put, getElem_toArray, getElem_cons_zero, getElem_cons_succ, setIfInBounds_toArray, set_cons_zero, set_cons_succ]
                apply s_val
                case ho | hw => rfl
                case hv => intro w hw; go_simp; first | done | rfl
                simp only [Act.put, getElem_toArray, getElem_cons_zero, getElem_cons_succ, setIfInBounds_toArray, set_cons_zero, set_cons_succ]
                apply s_val
                case ho | hw => rfl
                case hv => intro w hw; go_simp; first | done | rfl
                simp only [Act.put, getElem_toArray, getElem_cons_zero, getElem_cons_succ, setIfInBounds_toArray, set_cons_zero, set_cons_succ]
                refine s_idxR tyM rfl rfl (.tmp 113) (.tmp 114) rfl BD oD nn _ at_n rfl rfl hatn ?_
                simp only [Act.put, getElem_toArray, getElem_cons_zero, getElem_cons_succ, setIfInBounds_toArray, set_cons_zero, set_cons_succ]
                refine s_atR tyM rfl rfl (.tmp 115) rfl BD (oD + 3 * at_n) p.mail rfl rfl (fun W h => h.2) ?_
                simp only [Act.put, getElem_toArray, getElem_cons_zero, getElem_cons_succ, setIfInBounds_toArray, set_cons_zero, set_cons_succ]
                refine Rt.s_get rtM rfl rfl (.tmp 17) rfl b17 [.int .i64 (k : Int), .int .i64 to, .string tx] rfl rfl (fun W h => h.1) ?_
                simp only [Act.put, getElem_toArray, getElem_cons_zero, getElem_cons_succ, setIfInBounds_toArray, set_cons_zero, set_cons_succ]
                refine s_eqM rfl rfl (.tmp 116) (.tmp 117) _ rfl p ⟨(k : Int), to, tx, sent, at_⟩ rfl rfl ?_
                rw [heqm]
                simp only [Act.put, getElem_toArray, getElem_cons_zero, getElem_cons_succ, setIfInBounds_toArray, set_cons_zero, set_cons_succ]
                apply s_val
                case ho | hw => rfl
                case hv => intro w hw; go_simp; first | done | rfl
                simp only [Act.put, getElem_toArray, getElem_cons_zero, getElem_cons_succ, setIfInBounds_toArray, set_cons_zero, set_cons_succ]
                apply s_val
                case ho | hw => rfl
                case hv => intro w hw; go_simp; first | done | rfl
                simp only [Act.put, getElem_toArray, getElem_cons_zero, getElem_cons_succ, setIfInBounds_toArray, set_cons_zero, set_cons_succ]
                refine NoPanic.normal ?_
                obtain ⟨cur, hNB, harr, hcl, hset⟩ := la_arr2 HLA.out HQP.out
                have HARR := hidp harr; have HSET := hidp hset
                clear harr hset
                have tk0 := hidp trivial
                go_wp2_with (first | (clear tk0; (refine Mm.ld0 naI H rfl (.tmp 123) 0 (.int .i64 (k : Int)) rfl rfl rfl ?_); (try simp only [Act.put, setIfInBounds_toArray, set_cons_zero, set_cons_succ]); have tk1 := hidp trivial) | (clear tk1; (refine wpL_idx0 Try.underlying73 (by kernel_rfl) rfl (.tmp 122) (.tmp 124) rfl BL q _ k rfl rfl hkq ?_); (try simp only [Act.put, setIfInBounds_toArray, set_cons_zero, set_cons_succ]); have tk2 := hidp trivial) | (clear tk2; (refine Rt.wpL_putF rfl 2 (.tmp 126) (.tmp 125) rfl BL k (.int .i64 now1) rfl rfl (by kernel_rfl) rfl cur HARR.out (by have := HKL.out; omega) ?_; intro W9 ha9 st9; clear HLA; have HLA := hidp (HSET.out W9 k now1 HKL.out ha9); replace HP := hidp (PostAt.stp2 HP.out st9 HARR.out (by decide)); replace HD := hidp (OwnR.stpR HD.out st9 HARR.out (by decide)); replace HA := hidp (OwnR.stpR HA.out st9 HARR.out (by decide)); replace H := hidp (M_low H.out.tail (st9.below _ hNB) (Nat.le_of_eq st9.size.symm)); clear ha9 st9); (try simp only [Act.put, setIfInBounds_toArray, set_cons_zero, set_cons_succ]); have tk3 := hidp trivial))
                try clear tk3
                have hin := In.yes HDV.out HIN.out hjL (by rw [hx]; exact hdue)
                rw [hx] at hin
                exact ⟨⟨j + 1, _, by go_num, by rw [hat1]; go_num, by omega, HP.out, HLA.out, HD.out, HA.out, H.out, hin⟩, by simp [intOf]; omega⟩
              | false =>
                rw [hdue] at hisd
                have hat1 := hno_ hdue
                have hdne1 := hdne hdue
                clear hyes hno_ hdat hdne
                obtain ⟨at_n, hatn0⟩ : ∃ a, nD L1 now1 g j = a := ⟨_, rfl⟩
                rw [hatn0] at hat1 HNDL
                simp only [hatn0]
                by_cases hatn : at_n < nn
                · have e5 : decide ((at_n : Int) < (nn : Int)) = true := by simp; omega
                  obtain ⟨p, hp0⟩ : ∃ p, (L1.filter fun x => dueB x now1 g)[at_n]? = some p := ⟨_, List.getElem?_eq_getElem (by rw [hnf]; exact hatn)⟩
                  have heqm : eqM p ⟨(k : Int), to, tx, sent, at_⟩ = false := hdne1 p (List.mem_of_getElem? hp0)
                  clear hdne1
                  have tk0 := hidp trivial
                  go_upto_region 26 with (first | (clear tk0; (refine wpL_idxR tyM rfl (.tmp 82) (.tmp 84) rfl BA oA nl _ j rfl rfl hltj ?_); (try simp only [Act.put, setIfInBounds_toArray, set_cons_zero, set_cons_succ]); have tk1 := hidp trivial) | (clear tk1; (refine wpL_atR tyM rfl (.tmp 86) rfl BA (oA + 3 * j) [.int .i64 (k : Int), .int .i64 to, .string tx] rfl rfl HROW.out ?_); (try simp only [Act.put, setIfInBounds_toArray, set_cons_zero, set_cons_succ]); have tk2 := hidp trivial) | (clear tk2; (refine Mm.new rtM H (some 17) rfl rfl rfl ?_; clear H; intro b17 _ H nw; have NW := hidp nw; clear nw); (try simp only [Act.put, setIfInBounds_toArray, set_cons_zero, set_cons_succ]); have tk3 := hidp trivial) | (clear tk3; (refine Mm.put0 rtM H rfl (.tmp 17) (.tmp 87) [.int .i64 (k : Int), .int .i64 to, .string tx] rfl rfl rfl rfl (by simp [Value.oneCell']) rfl ?_; intro _ H2 st; have hb := NW.out.put st; replace HP := hidp (HP.out.to hb); replace HLA := hidp (Sl.own_to HLA.out hb); replace HD := hidp (HD.out.to hb (Nat.le_refl _)); replace HA := hidp (HA.out.to hb (Nat.le_refl _)); clear hb st NW H; have H := H2; clear H2); (try simp only [Act.put, setIfInBounds_toArray, set_cons_zero, set_cons_succ]); have tk4 := hidp trivial) | (clear tk4; (refine Mm.ld0 naI H rfl (.tmp 88) 0 (.int .i64 (k : Int)) rfl rfl rfl ?_); (try simp only [Act.put, setIfInBounds_toArray, set_cons_zero, set_cons_succ]); have tk5 := hidp trivial) | (clear tk5; (refine Mm.ld0 naI H rfl (.tmp 92) 0 (.int .i64 (k : Int)) rfl rfl rfl ?_); (try simp only [Act.put, setIfInBounds_toArray, set_cons_zero, set_cons_succ]); have tk6 := hidp trivial) | (clear tk6; (refine Mm.ld0 naI H rfl (.tmp 100) 0 (.int .i64 (k : Int)) rfl rfl rfl ?_); (try simp only [Act.put, setIfInBounds_toArray, set_cons_zero, set_cons_succ]); have tk7 := hidp trivial) | (clear tk7; (refine wpL_idx0 Try.underlying73 (by kernel_rfl) rfl (.tmp 99) (.tmp 101) rfl BL q _ k rfl rfl hkq ?_); (try simp only [Act.put, setIfInBounds_toArray, set_cons_zero, set_cons_succ]); have tk8 := hidp trivial) | (clear tk8; (refine Mm.ldc naI64 rfl (.tmp 102) ⟨BL, k, none⟩ (.int .i64 z) rfl rfl (la_cell HLA.out HQP.out k z hz) ?_); (try simp only [Act.put, setIfInBounds_toArray, set_cons_zero, set_cons_succ]); have tk9 := hidp trivial))
                  try clear tk9
                  obtain ⟨BD, oD, cD, eD, -, hBD, hrD⟩ := HD.out.rs.get (by rw [hnn]; omega)
                  rw [hnn] at eD
                  simp only [Value.slice.injEq] at eD
                  obtain ⟨rfl, -, rfl⟩ := eD
                  have HBD := hidp hBD
                  have HDR := hidp (show _ from mail_at hrD hp0)
                  clear hrD hBD
                  refine regionQ (S := fun W => Arr W b17 75 [.int .i64 (k : Int), .int .i64 to, .string tx] ∧ W.rangeAt BD (oD + 3 * at_n) p.mail) (.take 0 (.take 1 (.take 2 (.take 3 (.take 4 (.take 5 (.take 6 (.take 7 (.take 8 (.take 9 (.take 10 (.take 11 (.take 12 (.take 13 .done)))))))))))))) (by kernel_rfl) (by kernel_rfl) (by simp [Scr.depth]) (by kernel_rfl) ⟨H.out.drew.at0, rangeAt_below HDR.out (Below.refl _ _).drew HBD.out⟩ ?_
                  replace H := hidp H.out.drew
                  replace HP := hidp (HP.out.to (Below.refl _ _).drew)
                  replace HLA := hidp (Sl.own_to HLA.out (Below.refl _ _).drew)
                  replace HD := hidp (HD.out.to (Below.refl _ _).drew (Nat.le_refl _))
                  replace HA := hidp (HA.out.to (Below.refl _ _).drew (Nat.le_refl _))
                  apply s_val
                  case ho | hw => rfl
                  case hv => intro w hw; go_simp; first | done | rfl
                  simp only [Act.put, getElem_toArray, getElem_cons_zero, getElem_cons_succ, setIfInBounds_toArray, set_cons_zero, set_cons_succ]
                  apply s_val
                  case ho | hw => rfl
                  case hv => intro w hw; go_simp; first | done | rfl
                  simp only [Act.put, getElem_toArray, getElem_cons_zero, getElem_cons_succ, setIfInBounds_toArray, set_cons_zero, set_cons_succ]
                  apply s_val
                  case ho | hw => rfl
                  case hv => intro w hw; go_simp; first | done | rfl
                  simp only [Act.put, getElem_toArray, getElem_cons_zero, getElem_cons_succ, setIfInBounds_toArray, set_cons_zero, set_cons_succ]
                  apply s_val
                  case ho | hw => rfl
                  case hv => intro w hw; go_simp; first | done | rfl
                  simp only [Act.put, getElem_toArray, getElem_cons_zero, getElem_cons_succ, setIfInBounds_toArray, set_cons_zero, set_cons_succ]
                  apply s_val
                  case ho | hw => rfl
                  case hv => intro w hw; go_simp; first | done | rfl
                  simp only [Act.put, getElem_toArray, getElem_cons_zero, getElem_cons_succ, setIfInBounds_toArray, set_cons_zero, set_cons_succ]
                  apply s_val
                  case ho | hw => rfl
                  case hv => intro w hw; go_simp; first | done | rfl
                  simp only [Act.put, getElem_toArray, getElem_cons_zero, getElem_cons_succ, setIfInBounds_toArray, set_cons_zero, set_cons_succ]
                  apply s_val
                  case ho | hw => rfl
                  case hv => intro w hw; go_simp; first | done | rfl
                  simp only [Act.put, getElem_toArray, getElem_cons_zero, getElem_cons_succ, setIfInBounds_toArray, set_cons_zero, set_cons_succ]
                  apply s_val
                  case ho | hw => rfl
                  case hv => intro w hw; go_simp; first | done | rfl
                  simp only [Act.put, getElem_toArray, getElem_cons_zero, getElem_cons_succ, setIfInBounds_toArray, set_cons_zero, set_cons_succ]
                  refine s_idxR tyM rfl rfl (.tmp 113) (.tmp 114) rfl BD oD nn _ at_n rfl rfl hatn ?_
                  simp only [Act.put, getElem_toArray, getElem_cons_zero, getElem_cons_succ, setIfInBounds_toArray, set_cons_zero, set_cons_succ]
                  refine s_atR tyM rfl rfl (.tmp 115) rfl BD (oD + 3 * at_n) p.mail rfl rfl (fun W h => h.2) ?_
                  simp only [Act.put, getElem_toArray, getElem_cons_zero, getElem_cons_succ, setIfInBounds_toArray, set_cons_zero, set_cons_succ]
                  refine Rt.s_get rtM rfl rfl (.tmp 17) rfl b17 [.int .i64 (k : Int), .int .i64 to, .string tx] rfl rfl (fun W h => h.1) ?_
                  simp only [Act.put, getElem_toArray, getElem_cons_zero, getElem_cons_succ, setIfInBounds_toArray, set_cons_zero, set_cons_succ]
                  refine s_eqM rfl rfl (.tmp 116) (.tmp 117) _ rfl p ⟨(k : Int), to, tx, sent, at_⟩ rfl rfl ?_
                  rw [heqm]
                  simp only [Act.put, getElem_toArray, getElem_cons_zero, getElem_cons_succ, setIfInBounds_toArray, set_cons_zero, set_cons_succ]
                  apply s_val
                  case ho | hw => rfl
                  case hv => intro w hw; go_simp; first | done | rfl
                  simp only [Act.put, getElem_toArray, getElem_cons_zero, getElem_cons_succ, setIfInBounds_toArray, set_cons_zero, set_cons_succ]
                  apply s_val
                  case ho | hw => rfl
                  case hv => intro w hw; go_simp; first | done | rfl
                  simp only [Act.put, getElem_toArray, getElem_cons_zero, getElem_cons_succ, setIfInBounds_toArray, set_cons_zero, set_cons_succ]
                  refine NoPanic.normal ?_
                  go_wp2_with fail
                  exact ⟨⟨j + 1, _, by go_num, by rw [hat1], by omega, HP.out, HLA.out, HD.out, HA.out, H.out.tail, In.no HIN.out hjL (by rw [hx]; exact hdue)⟩, by simp [intOf]; omega⟩
                · have e5 : decide ((at_n : Int) < (nn : Int)) = false := by simp; omega
                  clear hdne1
                  have tk0 := hidp trivial
                  go_upto_region 26 with (first | (clear tk0; (refine wpL_idxR tyM rfl (.tmp 82) (.tmp 84) rfl BA oA nl _ j rfl rfl hltj ?_); (try simp only [Act.put, setIfInBounds_toArray, set_cons_zero, set_cons_succ]); have tk1 := hidp trivial) | (clear tk1; (refine wpL_atR tyM rfl (.tmp 86) rfl BA (oA + 3 * j) [.int .i64 (k : Int), .int .i64 to, .string tx] rfl rfl HROW.out ?_); (try simp only [Act.put, setIfInBounds_toArray, set_cons_zero, set_cons_succ]); have tk2 := hidp trivial) | (clear tk2; (refine Mm.new rtM H (some 17) rfl rfl rfl ?_; clear H; intro b17 _ H nw; have NW := hidp nw; clear nw); (try simp only [Act.put, setIfInBounds_toArray, set_cons_zero, set_cons_succ]); have tk3 := hidp trivial) | (clear tk3; (refine Mm.put0 rtM H rfl (.tmp 17) (.tmp 87) [.int .i64 (k : Int), .int .i64 to, .string tx] rfl rfl rfl rfl (by simp [Value.oneCell']) rfl ?_; intro _ H2 st; have hb := NW.out.put st; replace HP := hidp (HP.out.to hb); replace HLA := hidp (Sl.own_to HLA.out hb); replace HD := hidp (HD.out.to hb (Nat.le_refl _)); replace HA := hidp (HA.out.to hb (Nat.le_refl _)); clear hb st NW H; have H := H2; clear H2); (try simp only [Act.put, setIfInBounds_toArray, set_cons_zero, set_cons_succ]); have tk4 := hidp trivial) | (clear tk4; (refine Mm.ld0 naI H rfl (.tmp 88) 0 (.int .i64 (k : Int)) rfl rfl rfl ?_); (try simp only [Act.put, setIfInBounds_toArray, set_cons_zero, set_cons_succ]); have tk5 := hidp trivial) | (clear tk5; (refine Mm.ld0 naI H rfl (.tmp 92) 0 (.int .i64 (k : Int)) rfl rfl rfl ?_); (try simp only [Act.put, setIfInBounds_toArray, set_cons_zero, set_cons_succ]); have tk6 := hidp trivial) | (clear tk6; (refine Mm.ld0 naI H rfl (.tmp 100) 0 (.int .i64 (k : Int)) rfl rfl rfl ?_); (try simp only [Act.put, setIfInBounds_toArray, set_cons_zero, set_cons_succ]); have tk7 := hidp trivial) | (clear tk7; (refine wpL_idx0 Try.underlying73 (by kernel_rfl) rfl (.tmp 99) (.tmp 101) rfl BL q _ k rfl rfl hkq ?_); (try simp only [Act.put, setIfInBounds_toArray, set_cons_zero, set_cons_succ]); have tk8 := hidp trivial) | (clear tk8; (refine Mm.ldc naI64 rfl (.tmp 102) ⟨BL, k, none⟩ (.int .i64 z) rfl rfl (la_cell HLA.out HQP.out k z hz) ?_); (try simp only [Act.put, setIfInBounds_toArray, set_cons_zero, set_cons_succ]); have tk9 := hidp trivial))
                  try clear tk9
                  refine regionQ (S := fun W => Arr W b17 75 [.int .i64 (k : Int), .int .i64 to, .string tx]) (.take 0 (.take 1 (.take 2 (.take 3 (.take 4 (.take 5 (.take 6 (.take 7 (.take 8 (.take 9 (.take 10 (.take 11 (.take 12 (.take 13 .done)))))))))))))) (by kernel_rfl) (by kernel_rfl) (by simp [Scr.depth]) (by kernel_rfl) H.out.drew.at0 ?_
                  replace H := hidp H.out.drew
                  replace HP := hidp (HP.out.to (Below.refl _ _).drew)
                  replace HLA := hidp (Sl.own_to HLA.out (Below.refl _ _).drew)
                  replace HD := hidp (HD.out.to (Below.refl _ _).drew (Nat.le_refl _))
                  replace HA := hidp (HA.out.to (Below.refl _ _).drew (Nat.le_refl _))
                  apply s_val
                  case ho | hw => rfl
                  case hv => intro w hw; go_simp; first | done | rfl
                  simp only [Act.put, getElem_toArray, getElem_cons_zero, getElem_cons_succ, setIfInBounds_toArray, set_cons_zero, set_cons_succ]
                  apply s_val
                  case ho | hw => rfl
                  case hv => intro w hw; go_simp; first | done | rfl
                  simp only [Act.put, getElem_toArray, getElem_cons_zero, getElem_cons_succ, setIfInBounds_toArray, set_cons_zero, set_cons_succ]
                  apply s_val
                  case ho | hw => rfl
                  case hv => intro w hw; go_simp; first | done | rfl
                  simp only [Act.put, getElem_toArray, getElem_cons_zero, getElem_cons_succ, setIfInBounds_toArray, set_cons_zero, set_cons_succ]
                  apply s_val
                  case ho | hw => rfl
                  case hv => intro w hw; go_simp; first | done | rfl
                  simp only [Act.put, getElem_toArray, getElem_cons_zero, getElem_cons_succ, setIfInBounds_toArray, set_cons_zero, set_cons_succ]
                  apply s_val
                  case ho | hw => rfl
                  case hv => intro w hw; go_simp; first | done | rfl
                  simp only [Act.put, getElem_toArray, getElem_cons_zero, getElem_cons_succ, setIfInBounds_toArray, set_cons_zero, set_cons_succ]
                  apply s_val
                  case ho | hw => rfl
                  case hv => intro w hw; go_simp; first | done | rfl
                  simp only [Act.put, getElem_toArray, getElem_cons_zero, getElem_cons_succ, setIfInBounds_toArray, set_cons_zero, set_cons_succ]
                  refine Rt.s_skip rfl rfl ?_
                  simp only [Act.put, getElem_toArray, getElem_cons_zero, getElem_cons_succ, setIfInBounds_toArray, set_cons_zero, set_cons_succ]
                  refine Rt.s_skip rfl rfl ?_
                  simp only [Act.put, getElem_toArray, getElem_cons_zero, getElem_cons_succ, setIfInBounds_toArray, set_cons_zero, set_cons_succ]
                  refine Rt.s_skip rfl rfl ?_
                  simp only [Act.put, getElem_toArray, getElem_cons_zero, getElem_cons_succ, setIfInBounds_toArray, set_cons_zero, set_cons_succ]
                  refine Rt.s_skip rfl rfl ?_
                  simp only [Act.put, getElem_toArray, getElem_cons_zero, getElem_cons_succ, setIfInBounds_toArray, set_cons_zero, set_cons_succ]
                  refine Rt.s_skip rfl rfl ?_
                  simp only [Act.put, getElem_toArray, getElem_cons_zero, getElem_cons_succ, setIfInBounds_toArray, set_cons_zero, set_cons_succ]
                  refine Rt.s_skip rfl rfl ?_
                  simp only [Act.put, getElem_toArray, getElem_cons_zero, getElem_cons_succ, setIfInBounds_toArray, set_cons_zero, set_cons_succ]
                  apply s_val
                  case ho | hw => rfl
                  case hv => intro w hw; go_simp; first | done | rfl
                  simp only [Act.put, getElem_toArray, getElem_cons_zero, getElem_cons_succ, setIfInBounds_toArray, set_cons_zero, set_cons_succ]
                  apply s_val
                  case ho | hw => rfl
                  case hv => intro w hw; go_simp; first | done | rfl
                  simp only [Act.put, getElem_toArray, getElem_cons_zero, getElem_cons_succ, setIfInBounds_toArray, set_cons_zero, set_cons_succ]
                  refine NoPanic.normal ?_
                  go_wp2_with fail
                  exact ⟨⟨j + 1, _, by go_num, by rw [hat1], by omega, HP.out, HLA.out, HD.out, HA.out, H.out.tail, In.no HIN.out hjL (by rw [hx]; exact hdue)⟩, by simp [intOf]; omega⟩
            · have e2 : decide ((j : Int) < (nl : Int)) = false := by simp; omega
              obtain rfl : j = nl := by omega
              have hall : nD L1 now1 g j = nn := by rw [← hnl, nD_all, hnf]
              rw [← hnl] at HIN
              simp only [hall]
              have hne := bne_refl2 (nn : Int)
              have hqn : (q : Int) ≠ 0 := by have h1 := HQ1.out; have h2 := HDV.out.la_; omega
              have hqp : (0 : Int) < (q : Int) := by have h1 := HQ1.out; have h2 := HDV.out.la_; omega
              have hl2 : l2.length = q := by rw [HIN.out.len, hq]
              by_cases h2 : 200 ≤ s
              · have e6 : decide ((200 : Int) ≤ s) = true := by simp; omega
                have tk0 := hidp trivial
                go_wp2_with (first | (clear tk0; (go_at_call 31; refine (done_any _ b c 9 (L1.map (mkF now1 g)) g last1 lost1 HP.out HCP2.out HLB3.out (s % (q : Int))).mono ?_; rintro e W9 ⟨rfl, hp, hk⟩; replace HLA := hidp (la_pk HLA.out HP.out hk); replace H := hidp (M_pk2 H.out hk HP.out HGB.out HGC.out (by intro x hx; cases hx)); clear HP; have HP := hidp hp; clear hp hk); (try simp only [Act.put, setIfInBounds_toArray, set_cons_zero, set_cons_succ]); have tk1 := hidp trivial))
                try clear tk1
                exact ⟨⟨i + 1, now1, (dnL (L1.map (mkF now1 g)) (s % (q : Int))), l2, last1, lost1, by go_num, rfl, by omega, HP.out, HLA.out, H.out, (In.fin HDV.out HIN.out).done _⟩, by simp [intOf]; omega⟩
              · have e6 : decide ((200 : Int) ≤ s) = false := by simp; omega
                go_wp2_with fail
                exact ⟨⟨i + 1, now1, (L1.map (mkF now1 g)), l2, last1, lost1, by go_num, rfl, by omega, HP.out, HLA.out, H.out, In.fin HDV.out HIN.out⟩, by simp [intOf]; omega⟩
      · have e1 : decide ((i : Int) < (m : Int)) = false := by simp; omega
        go_wp2_with fail
        go_ret
        exact ⟨rfl, H.out.below⟩
end Go.Proofs.Ytokakgjcegmabaa.Po
