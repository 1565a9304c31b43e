/-
  Joined: EnQ.
-/
import Derived.Test.YtbgooppmhgaicaaGreatDoorAX
import Derived.Test.YtbgooppmhgaicaaGreatDoorAR2
namespace Go.Proofs.YtbgooppmhgaicaaGreatDoor.En
set_option maxRecDepth 100000
set_option linter.unusedVariables false
set_option linter.unusedSimpArgs false
open Go.RowKit
open List (getElem_toArray getElem_cons_zero getElem_cons_succ setIfInBounds_toArray set_cons_zero set_cons_succ)

def eqE (x y : En) : Bool := (x.r.toList == y.r.toList) && decide (x.e = y.e) && decide (x.i = y.i) && decide (x.p = y.p) && (x.v.toList == y.v.toList) && (x.g.toList == y.g.toList)
theorem toL_inj {a b : ByteArray} (h : a.toList = b.toList) : a = b := by
  rw [ByteArray.toList_eq, ByteArray.toList_eq] at h
  cases a; cases b; simp only [ByteArray.mk.injEq]; exact Array.toList_inj.1 h
theorem eqE_iff {x y : En} : eqE x y = true ↔ x = y := by
  obtain ⟨r1, a1, b1, p1, v1, g1⟩ := x
  obtain ⟨r2, a2, b2, p2, v2, g2⟩ := y
  unfold eqE
  simp only [Bool.and_eq_true, decide_eq_true_eq, beq_iff_eq, En.mk.injEq]
  constructor
  · rintro ⟨⟨⟨⟨⟨h1, h2⟩, h3⟩, h4⟩, h5⟩, h6⟩; exact ⟨toL_inj h1, h2, h3, h4, toL_inj h5, toL_inj h6⟩
  · rintro ⟨h1, h2, h3, h4, h5, h6⟩; subst h1 h2 h3 h4 h5 h6; simp
theorem eqin_two (W : World) (x y : En) (hp : x.p.length = 32) (hq : y.p.length = 32) : (Op.equalIn 10000 27 (.agg x.row.toArray) (.agg y.row.toArray)).run Tryz.prog W = .ok (eqE x y) W := by
  have ht : Tryz.prog.underlying 27 = some (.struct (Tryz.prog.fieldsOf 27)) := by kernel_rfl
  have hst : Tryz.prog.stoodInHeld 27 = false := by kernel_rfl
  have hu := Tryz.underlying27
  have hus := Tryz.underlying9
  have hui := Tryz.underlying3
  have hl := En.len hp
  have hm := En.len hq
  have r0 : x.row[0]'(by omega) = .string x.r := rfl
  have r1 : x.row[1]'(by omega) = .int .i64 x.e := rfl
  have r2 : x.row[2]'(by omega) = .int .i64 x.i := rfl
  have r35 : x.row[35]'(by omega) = .string x.v := by have := En.get35 hp; rw [List.getElem?_eq_getElem (by omega)] at this; simpa using this
  have r36 : x.row[36]'(by omega) = .string x.g := by have := En.get36 hp; rw [List.getElem?_eq_getElem (by omega)] at this; simpa using this
  have r4 : List.take 32 (List.drop 3 x.row) = u8s x.p := by
    rw [En.mid, List.take_append_of_le_length (by rw [u8s_length, hp]; exact Nat.le_refl _), List.take_of_length_le (by rw [u8s_length, hp]; exact Nat.le_refl _)]
  have q0 : y.row[0]'(by omega) = .string y.r := rfl
  have q1 : y.row[1]'(by omega) = .int .i64 y.e := rfl
  have q2 : y.row[2]'(by omega) = .int .i64 y.i := rfl
  have q35 : y.row[35]'(by omega) = .string y.v := by have := En.get35 hq; rw [List.getElem?_eq_getElem (by omega)] at this; simpa using this
  have q36 : y.row[36]'(by omega) = .string y.g := by have := En.get36 hq; rw [List.getElem?_eq_getElem (by omega)] at this; simpa using this
  have q4 : List.take 32 (List.drop 3 y.row) = u8s y.p := by
    rw [En.mid, List.take_append_of_le_length (by rw [u8s_length, hq]; exact Nat.le_refl _), List.take_of_length_le (by rw [u8s_length, hq]; exact Nat.le_refl _)]
  have qh := fun W => eqin_hd 9997 W x.p y.p hp hq
  have ha : (x.e == y.e) = decide (x.e = y.e) := by rw [Bool.eq_iff_iff]; simp
  have hb : (x.i == y.i) = decide (x.i = y.i) := by rw [Bool.eq_iff_iff]; simp
  rw [run_equalIn_agg W 9999 _ _ _ ht hst]
  unfold Program.fieldsOf eqE
  rw [hu]
  go_simp
  (repeat' split) <;> simp [*]
theorem esmQ_len (x : En) : (esmV x).length = 32 := by unfold esmV; split; exact shaL_len _; rfl
theorem eT_inj {x y : En} (hx : eOk x = true) (hy : eOk y = true) (hp : x.p.length = 32) (hq : y.p.length = 32) (h : eT x = eT y) : wSigE x ⟨#[]⟩ = wSigE y ⟨#[]⟩ := by
  have h1 := er_back hx hp
  rw [h, er_back hy hq] at h1
  exact (Option.some.inj h1).symm

set_option maxHeartbeats 64000000 in
theorem walk_entryApart (w : World) (x : En) (hx : x.ok) (y : En) (hy : y.ok) (hL : IT w ∧ KT w) :
    Calls Tryz.prog 4 #[.agg x.row.toArray, .agg y.row.toArray] w fun e w' => e = .returned (.bool true) ∧ Below w.heap.size w w' := by
  obtain ⟨hI, hK⟩ := hL
  have hkp := hK.pos
  have HI := hidp hI; have HK := hidp hK; clear hI hK
  have H := hidp (Mm.M.nil w)
  have HP := hidp hx.p
  have HQ := hidp hy.p
  have c1 := hidp (fun W h k => esum_any W x hx h k)
  have d1 := hidp (fun W h k => esum_any W y hy h k)
  have c2 := hidp (fun W => rtext_any W x hx)
  have d2 := hidp (fun W => rtext_any W y hy)
  have s1 := eT_size x hx.p
  have s2 := eT_size y hy.p
  have HU := hidp (esmQ_len x)
  have HV := hidp (esmQ_len y)
  obtain ⟨U, hU⟩ : ∃ B, esmV x = B := ⟨_, rfl⟩
  obtain ⟨V, hV⟩ : ∃ B, esmV y = B := ⟨_, rfl⟩
  rw [hU] at c1 HU
  rw [hV] at d1 HV
  have HU8 := hidp (show (u8s U).length = 32 from by rw [u8s_length]; exact HU.out)
  have HV8 := hidp (show (u8s V).length = 32 from by rw [u8s_length]; exact HV.out)
  cases hok : eOk x with
  | false =>
    obtain ⟨E2, hE2⟩ : ∃ B, eE y = B := ⟨_, rfl⟩
    rw [eE_no hok] at c1
    rw [hE2] at d1
    clear hok hE2 hx hy c2 d2 s1 s2 hU hV
    go_enter Tryz.func4, Tryz.ntmps4
    have tk0 := hidp trivial
    go_wp2_with (first | (clear tk0; (refine Mm.box 27 H rfl (.tmp 0) rfl x.row rfl ?_; clear H; intro b2 _ H nw; have hb := nw.below; clear hb nw); (try simp only [Act.put, setIfInBounds_toArray, set_cons_zero, set_cons_succ]); have tk1 := hidp trivial) | (clear tk1; (refine Mm.box 27 H rfl (.tmp 1) rfl y.row rfl ?_; clear H; intro b3 _ H nw; have hb := nw.below; clear hb nw); (try simp only [Act.put, setIfInBounds_toArray, set_cons_zero, set_cons_succ]); have tk2 := hidp trivial) | (clear tk2; (go_at_call 8; refine (lives19_any _ (HI.out.below H.out.below (Nat.le_refl _)) (HK.out.below H.out.below hkp)).mono ?_; rintro e _ ⟨rfl, hb⟩; replace H := hidp (H.out.call hb); clear hb); (try simp only [Act.put, setIfInBounds_toArray, set_cons_zero, set_cons_succ]); have tk3 := hidp trivial) | (clear tk3; (refine Mm.get1 rtE H rfl (.tmp 2) rfl rfl (En.len HP.out) ?_); (try simp only [Act.put, setIfInBounds_toArray, set_cons_zero, set_cons_succ]); have tk4 := hidp trivial) | (clear tk4; (go_at_call 17; refine (c1.out _ (HI.out.below H.out.below (Nat.le_refl _)) (HK.out.below H.out.below hkp)).mono ?_; rintro e _ ⟨rfl, hb⟩; replace H := hidp (H.out.call hb); clear c1; clear hb); (try simp only [Act.put, setIfInBounds_toArray, set_cons_zero, set_cons_succ]); have tk5 := hidp trivial) | (clear tk5; (refine Mm.new rtH H (some 5) rfl rfl rfl ?_; clear H; intro b5 _ H nw; have hb := nw.below; clear hb nw); (try simp only [Act.put, setIfInBounds_toArray, set_cons_zero, set_cons_succ]); have tk6 := hidp trivial) | (clear tk6; (refine Mm.put0 rtH H rfl (.tmp 5) (.tmp 20) (u8s U) rfl rfl rfl HU8.out (u8_one _) rfl ?_; intro _ H2 st; clear st H; have H := H2; clear H2); (try simp only [Act.put, setIfInBounds_toArray, set_cons_zero, set_cons_succ]); have tk7 := hidp trivial) | (clear tk7; (refine Mm.get1 rtE H rfl (.tmp 3) rfl rfl (En.len HQ.out) ?_); (try simp only [Act.put, setIfInBounds_toArray, set_cons_zero, set_cons_succ]); have tk8 := hidp trivial) | (clear tk8; (go_at_call 17; refine (d1.out _ (HI.out.below H.out.below (Nat.le_refl _)) (HK.out.below H.out.below hkp)).mono ?_; rintro e _ ⟨rfl, hb⟩; replace H := hidp (H.out.call hb); clear d1; clear hb); (try simp only [Act.put, setIfInBounds_toArray, set_cons_zero, set_cons_succ]); have tk9 := hidp trivial) | (clear tk9; (refine Mm.new rtH H (some 7) rfl rfl rfl ?_; clear H; intro b7 _ H nw; have hb := nw.below; clear hb nw); (try simp only [Act.put, setIfInBounds_toArray, set_cons_zero, set_cons_succ]); have tk10 := hidp trivial) | (clear tk10; (refine Mm.put0 rtH H rfl (.tmp 7) (.tmp 25) (u8s V) rfl rfl rfl HV8.out (u8_one _) rfl ?_; intro _ H2 st; clear st H; have H := H2; clear H2); (try simp only [Act.put, setIfInBounds_toArray, set_cons_zero, set_cons_succ]); have tk11 := hidp trivial))
    try clear tk11
    go_ret
    exact ⟨rfl, H.out.below⟩
  | true =>
    rw [eE_yes hok] at c1 c2
    cases hok2 : eOk y with
    | false =>
      rw [eE_no hok2] at d1
      clear hok hok2 hx hy c2 d2 s1 s2 hU hV
      go_enter Tryz.func4, Tryz.ntmps4
      have tk0 := hidp trivial
      go_wp2_with (first | (clear tk0; (refine Mm.box 27 H rfl (.tmp 0) rfl x.row rfl ?_; clear H; intro b2 _ H nw; have hb := nw.below; clear hb nw); (try simp only [Act.put, setIfInBounds_toArray, set_cons_zero, set_cons_succ]); have tk1 := hidp trivial) | (clear tk1; (refine Mm.box 27 H rfl (.tmp 1) rfl y.row rfl ?_; clear H; intro b3 _ H nw; have hb := nw.below; clear hb nw); (try simp only [Act.put, setIfInBounds_toArray, set_cons_zero, set_cons_succ]); have tk2 := hidp trivial) | (clear tk2; (go_at_call 8; refine (lives19_any _ (HI.out.below H.out.below (Nat.le_refl _)) (HK.out.below H.out.below hkp)).mono ?_; rintro e _ ⟨rfl, hb⟩; replace H := hidp (H.out.call hb); clear hb); (try simp only [Act.put, setIfInBounds_toArray, set_cons_zero, set_cons_succ]); have tk3 := hidp trivial) | (clear tk3; (refine Mm.get1 rtE H rfl (.tmp 2) rfl rfl (En.len HP.out) ?_); (try simp only [Act.put, setIfInBounds_toArray, set_cons_zero, set_cons_succ]); have tk4 := hidp trivial) | (clear tk4; (go_at_call 17; refine (c1.out _ (HI.out.below H.out.below (Nat.le_refl _)) (HK.out.below H.out.below hkp)).mono ?_; rintro e _ ⟨rfl, hb⟩; replace H := hidp (H.out.call hb); clear c1; clear hb); (try simp only [Act.put, setIfInBounds_toArray, set_cons_zero, set_cons_succ]); have tk5 := hidp trivial) | (clear tk5; (refine Mm.new rtH H (some 5) rfl rfl rfl ?_; clear H; intro b5 _ H nw; have hb := nw.below; clear hb nw); (try simp only [Act.put, setIfInBounds_toArray, set_cons_zero, set_cons_succ]); have tk6 := hidp trivial) | (clear tk6; (refine Mm.put0 rtH H rfl (.tmp 5) (.tmp 20) (u8s U) rfl rfl rfl HU8.out (u8_one _) rfl ?_; intro _ H2 st; clear st H; have H := H2; clear H2); (try simp only [Act.put, setIfInBounds_toArray, set_cons_zero, set_cons_succ]); have tk7 := hidp trivial) | (clear tk7; (refine Mm.get1 rtE H rfl (.tmp 3) rfl rfl (En.len HQ.out) ?_); (try simp only [Act.put, setIfInBounds_toArray, set_cons_zero, set_cons_succ]); have tk8 := hidp trivial) | (clear tk8; (go_at_call 17; refine (d1.out _ (HI.out.below H.out.below (Nat.le_refl _)) (HK.out.below H.out.below hkp)).mono ?_; rintro e _ ⟨rfl, hb⟩; replace H := hidp (H.out.call hb); clear d1; clear hb); (try simp only [Act.put, setIfInBounds_toArray, set_cons_zero, set_cons_succ]); have tk9 := hidp trivial) | (clear tk9; (refine Mm.new rtH H (some 7) rfl rfl rfl ?_; clear H; intro b7 _ H nw; have hb := nw.below; clear hb nw); (try simp only [Act.put, setIfInBounds_toArray, set_cons_zero, set_cons_succ]); have tk10 := hidp trivial) | (clear tk10; (refine Mm.put0 rtH H rfl (.tmp 7) (.tmp 25) (u8s V) rfl rfl rfl HV8.out (u8_one _) rfl ?_; intro _ H2 st; clear st H; have H := H2; clear H2); (try simp only [Act.put, setIfInBounds_toArray, set_cons_zero, set_cons_succ]); have tk11 := hidp trivial))
      try clear tk11
      go_ret
      exact ⟨rfl, H.out.below⟩
    | true =>
      rw [eE_yes hok2] at d1 d2
      have gh := guard_hash
      by_cases huv : U = V
      · have hsx : shaL (eT x).data.toList = U := by rw [← hU]; unfold esmV; rw [if_pos hok]
        have hsy : shaL (eT y).data.toList = U := by rw [huv, ← hV]; unfold esmV; rw [if_pos hok2]
        have c3 := hidp (fun W => rsum_any W (eT x) (by omega))
        have d3 := hidp (fun W => rsum_any W (eT y) (by omega))
        rw [hsx] at c3
        rw [hsy] at d3
        have hti := fun h => eT_inj hok hok2 hx.p hy.p h
        have HX1 := hidp (show (wSigE x ⟨#[]⟩).p.length = 32 from hx.p)
        have HY1 := hidp (show (wSigE y ⟨#[]⟩).p.length = 32 from hy.p)
        have ex1 := hidp (En.sig36' (s := ⟨#[]⟩) hx.p)
        have ey1 := hidp (En.sig36' (s := ⟨#[]⟩) hy.p)
        have ge := guard_en
        subst huv
        have qh : ∀ W, (Op.equalIn 10000 25 (.agg (u8s U).toArray) (.agg (u8s U).toArray)).run Tryz.prog W = .ok true W := fun W => by
          have := eqin_hd 9998 W U U HU.out HU.out
          simpa using this
        obtain ⟨S1, hS1⟩ : ∃ B, eT x = B := ⟨_, rfl⟩
        obtain ⟨S2, hS2⟩ : ∃ B, eT y = B := ⟨_, rfl⟩
        rw [hS1] at c2 c3 hti
        rw [hS2] at d2 d3 hti
        obtain ⟨x1, hx1⟩ : ∃ B, wSigE x ⟨#[]⟩ = B := ⟨_, rfl⟩
        obtain ⟨y1, hy1⟩ : ∃ B, wSigE y ⟨#[]⟩ = B := ⟨_, rfl⟩
        rw [hx1] at hti HX1 ex1
        rw [hy1] at hti HY1 ey1
        clear hx hy s1 s2 hU hV hsx hsy hS1 hS2 hx1 hy1 hok hok2
        by_cases hxy : x1 = y1
        · subst hxy
          have qe := fun W => eqin_en W x1 HX1.out
          clear hti c3 d3
          go_enter Tryz.func4, Tryz.ntmps4
          have tk0 := hidp trivial
          go_wp2_with (first | (clear tk0; (refine Mm.box 27 H rfl (.tmp 0) rfl x.row rfl ?_; clear H; intro b2 _ H nw; have hb := nw.below; clear hb nw); (try simp only [Act.put, setIfInBounds_toArray, set_cons_zero, set_cons_succ]); have tk1 := hidp trivial) | (clear tk1; (refine Mm.box 27 H rfl (.tmp 1) rfl y.row rfl ?_; clear H; intro b3 _ H nw; have hb := nw.below; clear hb nw); (try simp only [Act.put, setIfInBounds_toArray, set_cons_zero, set_cons_succ]); have tk2 := hidp trivial) | (clear tk2; (go_at_call 8; refine (lives19_any _ (HI.out.below H.out.below (Nat.le_refl _)) (HK.out.below H.out.below hkp)).mono ?_; rintro e _ ⟨rfl, hb⟩; replace H := hidp (H.out.call hb); clear hb); (try simp only [Act.put, setIfInBounds_toArray, set_cons_zero, set_cons_succ]); have tk3 := hidp trivial) | (clear tk3; (refine Mm.get1 rtE H rfl (.tmp 2) rfl rfl (En.len HP.out) ?_); (try simp only [Act.put, setIfInBounds_toArray, set_cons_zero, set_cons_succ]); have tk4 := hidp trivial) | (clear tk4; (go_at_call 17; refine (c1.out _ (HI.out.below H.out.below (Nat.le_refl _)) (HK.out.below H.out.below hkp)).mono ?_; rintro e _ ⟨rfl, hb⟩; replace H := hidp (H.out.call hb); clear c1; clear hb); (try simp only [Act.put, setIfInBounds_toArray, set_cons_zero, set_cons_succ]); have tk5 := hidp trivial) | (clear tk5; (refine Mm.new rtH H (some 5) rfl rfl rfl ?_; clear H; intro b5 _ H nw; have hb := nw.below; clear hb nw); (try simp only [Act.put, setIfInBounds_toArray, set_cons_zero, set_cons_succ]); have tk6 := hidp trivial) | (clear tk6; (refine Mm.put0 rtH H rfl (.tmp 5) (.tmp 20) (u8s U) rfl rfl rfl HU8.out (u8_one _) rfl ?_; intro _ H2 st; clear st H; have H := H2; clear H2); (try simp only [Act.put, setIfInBounds_toArray, set_cons_zero, set_cons_succ]); have tk7 := hidp trivial) | (clear tk7; (refine Mm.get1 rtE H rfl (.tmp 3) rfl rfl (En.len HQ.out) ?_); (try simp only [Act.put, setIfInBounds_toArray, set_cons_zero, set_cons_succ]); have tk8 := hidp trivial) | (clear tk8; (go_at_call 17; refine (d1.out _ (HI.out.below H.out.below (Nat.le_refl _)) (HK.out.below H.out.below hkp)).mono ?_; rintro e _ ⟨rfl, hb⟩; replace H := hidp (H.out.call hb); clear d1; clear hb); (try simp only [Act.put, setIfInBounds_toArray, set_cons_zero, set_cons_succ]); have tk9 := hidp trivial) | (clear tk9; (refine Mm.new rtH H (some 7) rfl rfl rfl ?_; clear H; intro b7 _ H nw; have hb := nw.below; clear hb nw); (try simp only [Act.put, setIfInBounds_toArray, set_cons_zero, set_cons_succ]); have tk10 := hidp trivial) | (clear tk10; (refine Mm.put0 rtH H rfl (.tmp 7) (.tmp 25) (u8s U) rfl rfl rfl HU8.out (u8_one _) rfl ?_; intro _ H2 st; clear st H; have H := H2; clear H2); (try simp only [Act.put, setIfInBounds_toArray, set_cons_zero, set_cons_succ]); have tk11 := hidp trivial) | (clear tk11; (refine Mm.get1 rtH H rfl (.tmp 5) rfl rfl HU8.out ?_); (try simp only [Act.put, setIfInBounds_toArray, set_cons_zero, set_cons_succ]); have tk12 := hidp trivial) | (clear tk12; (refine Mm.get0 rtH H rfl (.tmp 7) rfl rfl HU8.out ?_); (try simp only [Act.put, setIfInBounds_toArray, set_cons_zero, set_cons_succ]); have tk13 := hidp trivial))
          try clear tk13
          refine Mm.region H (.take 0 (.take 1 (.two 2 (.one 3 (.one 4 (.one 5 .done))) 3 (.one 2 (.one 4 (.one 5 .done)))))) (by kernel_rfl) (by kernel_rfl) (by simp [Scr.depth]) (by kernel_rfl) ?_
          clear H
          intro _ H hb
          clear hb
          refine Mm.sget3 rtE (fun w h => h) rfl rfl (.tmp 2) rfl rfl (En.len HP.out) ?_
          simp only [Act.put, getElem_toArray, getElem_cons_zero, getElem_cons_succ, setIfInBounds_toArray, set_cons_zero, set_cons_succ]
          refine Mm.sget2 rtE (fun w h => h) rfl rfl (.tmp 3) rfl rfl (En.len HQ.out) ?_
          simp only [Act.put, getElem_toArray, getElem_cons_zero, getElem_cons_succ, setIfInBounds_toArray, set_cons_zero, set_cons_succ]
          refine ⟨?_, ?_⟩
          · refine Mm.o_newH rtE H (fun W h => h) rfl rfl rfl ?_
            clear H
            intro b9 _ H nw
            have hb := nw.below

            clear hb nw
            simp only [Act.put, getElem_toArray, getElem_cons_zero, getElem_cons_succ, setIfInBounds_toArray, set_cons_zero, set_cons_succ]
            refine Mm.o_newH rtE H (fun W h => h.tail) rfl rfl rfl ?_
            clear H
            intro b10 _ H nw
            have hb := nw.below

            clear hb nw
            simp only [Act.put, getElem_toArray, getElem_cons_zero, getElem_cons_succ, setIfInBounds_toArray, set_cons_zero, set_cons_succ]
            refine Mm.oput1 rtE H x.row (fun W h => h.tail.tail) rfl rfl (.tmp 9) (.tmp 38) rfl rfl rfl (En.len HP.out) (En.one x) (En.len (rfl : zEn.p.length = 32)) ?_
            intro _ H2 st
            clear st H
            have H := H2
            clear H2
            simp only [Act.put, getElem_toArray, getElem_cons_zero, getElem_cons_succ, setIfInBounds_toArray, set_cons_zero, set_cons_succ]
            refine Mm.oput0 rtE H y.row (fun W h => h.tail.tail) rfl rfl (.tmp 10) (.tmp 39) rfl rfl rfl (En.len HQ.out) (En.one y) (En.len (rfl : zEn.p.length = 32)) ?_
            intro _ H2 st
            clear st H
            have H := H2
            clear H2
            simp only [Act.put, getElem_toArray, getElem_cons_zero, getElem_cons_succ, setIfInBounds_toArray, set_cons_zero, set_cons_succ]
            refine NoPanic.normal ?_
            have tk0 := hidp trivial
            go_wp2_with (first | (clear tk0; (refine Mm.putF1 H rfl 9 (.tmp 40) (.const (.string ⟨#[]⟩)) 36 (.string ⟨#[]⟩) rfl rfl rfl (by kernel_rfl) rfl (by rw [En.len HP.out]; decide) ?_; intro _ H2 st; clear st H; rw [ex1.out] at H2; have H := H2; clear H2); (try simp only [Act.put, setIfInBounds_toArray, set_cons_zero, set_cons_succ]); have tk1 := hidp trivial) | (clear tk1; (refine Mm.putF0 H rfl 9 (.tmp 41) (.const (.string ⟨#[]⟩)) 36 (.string ⟨#[]⟩) rfl rfl rfl (by kernel_rfl) rfl (by rw [En.len HQ.out]; decide) ?_; intro _ H2 st; clear st H; rw [ey1.out] at H2; have H := H2; clear H2); (try simp only [Act.put, setIfInBounds_toArray, set_cons_zero, set_cons_succ]); have tk2 := hidp trivial) | (clear tk2; (refine Mm.get5 rtE H rfl (.tmp 2) rfl rfl (En.len HP.out) ?_); (try simp only [Act.put, setIfInBounds_toArray, set_cons_zero, set_cons_succ]); have tk3 := hidp trivial) | (clear tk3; (go_at_call 18; refine (c2.out _).mono ?_; rintro e _ ⟨rfl, hb⟩; replace H := hidp (H.out.call hb); clear c2; clear hb); (try simp only [Act.put, setIfInBounds_toArray, set_cons_zero, set_cons_succ]); have tk4 := hidp trivial) | (clear tk4; (refine Mm.get4 rtE H rfl (.tmp 3) rfl rfl (En.len HQ.out) ?_); (try simp only [Act.put, setIfInBounds_toArray, set_cons_zero, set_cons_succ]); have tk5 := hidp trivial) | (clear tk5; (go_at_call 18; refine (d2.out _).mono ?_; rintro e _ ⟨rfl, hb⟩; replace H := hidp (H.out.call hb); clear d2; clear hb); (try simp only [Act.put, setIfInBounds_toArray, set_cons_zero, set_cons_succ]); have tk6 := hidp trivial) | (clear tk6; (refine Mm.get1 rtE H rfl (.tmp 9) rfl rfl (En.len HX1.out) ?_); (try simp only [Act.put, setIfInBounds_toArray, set_cons_zero, set_cons_succ]); have tk7 := hidp trivial) | (clear tk7; (refine Mm.get0 rtE H rfl (.tmp 10) rfl rfl (En.len HX1.out) ?_); (try simp only [Act.put, setIfInBounds_toArray, set_cons_zero, set_cons_succ]); have tk8 := hidp trivial))
            try clear tk8
            go_ret
            exact ⟨rfl, H.out.below⟩
          · refine Mm.o_newH rtE H (fun W h => h) rfl rfl rfl ?_
            clear H
            intro b10 _ H nw
            have hb := nw.below

            clear hb nw
            simp only [Act.put, getElem_toArray, getElem_cons_zero, getElem_cons_succ, setIfInBounds_toArray, set_cons_zero, set_cons_succ]
            refine Mm.o_newH rtE H (fun W h => h.tail) rfl rfl rfl ?_
            clear H
            intro b9 _ H nw
            have hb := nw.below

            clear hb nw
            simp only [Act.put, getElem_toArray, getElem_cons_zero, getElem_cons_succ, setIfInBounds_toArray, set_cons_zero, set_cons_succ]
            refine Mm.oput0 rtE H x.row (fun W h => h.tail.tail) rfl rfl (.tmp 9) (.tmp 38) rfl rfl rfl (En.len HP.out) (En.one x) (En.len (rfl : zEn.p.length = 32)) ?_
            intro _ H2 st
            clear st H
            have H := H2
            clear H2
            simp only [Act.put, getElem_toArray, getElem_cons_zero, getElem_cons_succ, setIfInBounds_toArray, set_cons_zero, set_cons_succ]
            refine Mm.oput1 rtE H y.row (fun W h => h.tail.tail) rfl rfl (.tmp 10) (.tmp 39) rfl rfl rfl (En.len HQ.out) (En.one y) (En.len (rfl : zEn.p.length = 32)) ?_
            intro _ H2 st
            clear st H
            have H := H2
            clear H2
            simp only [Act.put, getElem_toArray, getElem_cons_zero, getElem_cons_succ, setIfInBounds_toArray, set_cons_zero, set_cons_succ]
            refine NoPanic.normal ?_
            have tk0 := hidp trivial
            go_wp2_with (first | (clear tk0; (refine Mm.putF0 H rfl 9 (.tmp 40) (.const (.string ⟨#[]⟩)) 36 (.string ⟨#[]⟩) rfl rfl rfl (by kernel_rfl) rfl (by rw [En.len HP.out]; decide) ?_; intro _ H2 st; clear st H; rw [ex1.out] at H2; have H := H2; clear H2); (try simp only [Act.put, setIfInBounds_toArray, set_cons_zero, set_cons_succ]); have tk1 := hidp trivial) | (clear tk1; (refine Mm.putF1 H rfl 9 (.tmp 41) (.const (.string ⟨#[]⟩)) 36 (.string ⟨#[]⟩) rfl rfl rfl (by kernel_rfl) rfl (by rw [En.len HQ.out]; decide) ?_; intro _ H2 st; clear st H; rw [ey1.out] at H2; have H := H2; clear H2); (try simp only [Act.put, setIfInBounds_toArray, set_cons_zero, set_cons_succ]); have tk2 := hidp trivial) | (clear tk2; (refine Mm.get5 rtE H rfl (.tmp 2) rfl rfl (En.len HP.out) ?_); (try simp only [Act.put, setIfInBounds_toArray, set_cons_zero, set_cons_succ]); have tk3 := hidp trivial) | (clear tk3; (go_at_call 18; refine (c2.out _).mono ?_; rintro e _ ⟨rfl, hb⟩; replace H := hidp (H.out.call hb); clear c2; clear hb); (try simp only [Act.put, setIfInBounds_toArray, set_cons_zero, set_cons_succ]); have tk4 := hidp trivial) | (clear tk4; (refine Mm.get4 rtE H rfl (.tmp 3) rfl rfl (En.len HQ.out) ?_); (try simp only [Act.put, setIfInBounds_toArray, set_cons_zero, set_cons_succ]); have tk5 := hidp trivial) | (clear tk5; (go_at_call 18; refine (d2.out _).mono ?_; rintro e _ ⟨rfl, hb⟩; replace H := hidp (H.out.call hb); clear d2; clear hb); (try simp only [Act.put, setIfInBounds_toArray, set_cons_zero, set_cons_succ]); have tk6 := hidp trivial) | (clear tk6; (refine Mm.get0 rtE H rfl (.tmp 9) rfl rfl (En.len HX1.out) ?_); (try simp only [Act.put, setIfInBounds_toArray, set_cons_zero, set_cons_succ]); have tk7 := hidp trivial) | (clear tk7; (refine Mm.get1 rtE H rfl (.tmp 10) rfl rfl (En.len HX1.out) ?_); (try simp only [Act.put, setIfInBounds_toArray, set_cons_zero, set_cons_succ]); have tk8 := hidp trivial))
            try clear tk8
            go_ret
            exact ⟨rfl, H.out.below⟩
        · have qe : ∀ W, (Op.equalIn 10000 27 (.agg x1.row.toArray) (.agg y1.row.toArray)).run Tryz.prog W = .ok false W := fun W => by
            rw [eqin_two W x1 y1 HX1.out HY1.out, Bool.eq_false_iff.2 fun g => hxy (eqE_iff.1 g)]
          have hst : (S1.toList == S2.toList) = false := by
            rw [beq_eq_false_iff_ne]; exact fun g => hxy (hti (toL_inj g))
          clear hti hxy
          go_enter Tryz.func4, Tryz.ntmps4
          have tk0 := hidp trivial
          go_wp2_with (first | (clear tk0; (refine Mm.box 27 H rfl (.tmp 0) rfl x.row rfl ?_; clear H; intro b2 _ H nw; have hb := nw.below; clear hb nw); (try simp only [Act.put, setIfInBounds_toArray, set_cons_zero, set_cons_succ]); have tk1 := hidp trivial) | (clear tk1; (refine Mm.box 27 H rfl (.tmp 1) rfl y.row rfl ?_; clear H; intro b3 _ H nw; have hb := nw.below; clear hb nw); (try simp only [Act.put, setIfInBounds_toArray, set_cons_zero, set_cons_succ]); have tk2 := hidp trivial) | (clear tk2; (go_at_call 8; refine (lives19_any _ (HI.out.below H.out.below (Nat.le_refl _)) (HK.out.below H.out.below hkp)).mono ?_; rintro e _ ⟨rfl, hb⟩; replace H := hidp (H.out.call hb); clear hb); (try simp only [Act.put, setIfInBounds_toArray, set_cons_zero, set_cons_succ]); have tk3 := hidp trivial) | (clear tk3; (refine Mm.get1 rtE H rfl (.tmp 2) rfl rfl (En.len HP.out) ?_); (try simp only [Act.put, setIfInBounds_toArray, set_cons_zero, set_cons_succ]); have tk4 := hidp trivial) | (clear tk4; (go_at_call 17; refine (c1.out _ (HI.out.below H.out.below (Nat.le_refl _)) (HK.out.below H.out.below hkp)).mono ?_; rintro e _ ⟨rfl, hb⟩; replace H := hidp (H.out.call hb); clear c1; clear hb); (try simp only [Act.put, setIfInBounds_toArray, set_cons_zero, set_cons_succ]); have tk5 := hidp trivial) | (clear tk5; (refine Mm.new rtH H (some 5) rfl rfl rfl ?_; clear H; intro b5 _ H nw; have hb := nw.below; clear hb nw); (try simp only [Act.put, setIfInBounds_toArray, set_cons_zero, set_cons_succ]); have tk6 := hidp trivial) | (clear tk6; (refine Mm.put0 rtH H rfl (.tmp 5) (.tmp 20) (u8s U) rfl rfl rfl HU8.out (u8_one _) rfl ?_; intro _ H2 st; clear st H; have H := H2; clear H2); (try simp only [Act.put, setIfInBounds_toArray, set_cons_zero, set_cons_succ]); have tk7 := hidp trivial) | (clear tk7; (refine Mm.get1 rtE H rfl (.tmp 3) rfl rfl (En.len HQ.out) ?_); (try simp only [Act.put, setIfInBounds_toArray, set_cons_zero, set_cons_succ]); have tk8 := hidp trivial) | (clear tk8; (go_at_call 17; refine (d1.out _ (HI.out.below H.out.below (Nat.le_refl _)) (HK.out.below H.out.below hkp)).mono ?_; rintro e _ ⟨rfl, hb⟩; replace H := hidp (H.out.call hb); clear d1; clear hb); (try simp only [Act.put, setIfInBounds_toArray, set_cons_zero, set_cons_succ]); have tk9 := hidp trivial) | (clear tk9; (refine Mm.new rtH H (some 7) rfl rfl rfl ?_; clear H; intro b7 _ H nw; have hb := nw.below; clear hb nw); (try simp only [Act.put, setIfInBounds_toArray, set_cons_zero, set_cons_succ]); have tk10 := hidp trivial) | (clear tk10; (refine Mm.put0 rtH H rfl (.tmp 7) (.tmp 25) (u8s U) rfl rfl rfl HU8.out (u8_one _) rfl ?_; intro _ H2 st; clear st H; have H := H2; clear H2); (try simp only [Act.put, setIfInBounds_toArray, set_cons_zero, set_cons_succ]); have tk11 := hidp trivial) | (clear tk11; (refine Mm.get1 rtH H rfl (.tmp 5) rfl rfl HU8.out ?_); (try simp only [Act.put, setIfInBounds_toArray, set_cons_zero, set_cons_succ]); have tk12 := hidp trivial) | (clear tk12; (refine Mm.get0 rtH H rfl (.tmp 7) rfl rfl HU8.out ?_); (try simp only [Act.put, setIfInBounds_toArray, set_cons_zero, set_cons_succ]); have tk13 := hidp trivial))
          try clear tk13
          refine Mm.region H (.take 0 (.take 1 (.two 2 (.one 3 (.one 4 (.one 5 .done))) 3 (.one 2 (.one 4 (.one 5 .done)))))) (by kernel_rfl) (by kernel_rfl) (by simp [Scr.depth]) (by kernel_rfl) ?_
          clear H
          intro _ H hb
          clear hb
          refine Mm.sget3 rtE (fun w h => h) rfl rfl (.tmp 2) rfl rfl (En.len HP.out) ?_
          simp only [Act.put, getElem_toArray, getElem_cons_zero, getElem_cons_succ, setIfInBounds_toArray, set_cons_zero, set_cons_succ]
          refine Mm.sget2 rtE (fun w h => h) rfl rfl (.tmp 3) rfl rfl (En.len HQ.out) ?_
          simp only [Act.put, getElem_toArray, getElem_cons_zero, getElem_cons_succ, setIfInBounds_toArray, set_cons_zero, set_cons_succ]
          refine ⟨?_, ?_⟩
          · refine Mm.o_newH rtE H (fun W h => h) rfl rfl rfl ?_
            clear H
            intro b9 _ H nw
            have hb := nw.below

            clear hb nw
            simp only [Act.put, getElem_toArray, getElem_cons_zero, getElem_cons_succ, setIfInBounds_toArray, set_cons_zero, set_cons_succ]
            refine Mm.o_newH rtE H (fun W h => h.tail) rfl rfl rfl ?_
            clear H
            intro b10 _ H nw
            have hb := nw.below

            clear hb nw
            simp only [Act.put, getElem_toArray, getElem_cons_zero, getElem_cons_succ, setIfInBounds_toArray, set_cons_zero, set_cons_succ]
            refine Mm.oput1 rtE H x.row (fun W h => h.tail.tail) rfl rfl (.tmp 9) (.tmp 38) rfl rfl rfl (En.len HP.out) (En.one x) (En.len (rfl : zEn.p.length = 32)) ?_
            intro _ H2 st
            clear st H
            have H := H2
            clear H2
            simp only [Act.put, getElem_toArray, getElem_cons_zero, getElem_cons_succ, setIfInBounds_toArray, set_cons_zero, set_cons_succ]
            refine Mm.oput0 rtE H y.row (fun W h => h.tail.tail) rfl rfl (.tmp 10) (.tmp 39) rfl rfl rfl (En.len HQ.out) (En.one y) (En.len (rfl : zEn.p.length = 32)) ?_
            intro _ H2 st
            clear st H
            have H := H2
            clear H2
            simp only [Act.put, getElem_toArray, getElem_cons_zero, getElem_cons_succ, setIfInBounds_toArray, set_cons_zero, set_cons_succ]
            refine NoPanic.normal ?_
            have tk0 := hidp trivial
            go_wp2_with (first | (clear tk0; (refine Mm.putF1 H rfl 9 (.tmp 40) (.const (.string ⟨#[]⟩)) 36 (.string ⟨#[]⟩) rfl rfl rfl (by kernel_rfl) rfl (by rw [En.len HP.out]; decide) ?_; intro _ H2 st; clear st H; rw [ex1.out] at H2; have H := H2; clear H2); (try simp only [Act.put, setIfInBounds_toArray, set_cons_zero, set_cons_succ]); have tk1 := hidp trivial) | (clear tk1; (refine Mm.putF0 H rfl 9 (.tmp 41) (.const (.string ⟨#[]⟩)) 36 (.string ⟨#[]⟩) rfl rfl rfl (by kernel_rfl) rfl (by rw [En.len HQ.out]; decide) ?_; intro _ H2 st; clear st H; rw [ey1.out] at H2; have H := H2; clear H2); (try simp only [Act.put, setIfInBounds_toArray, set_cons_zero, set_cons_succ]); have tk2 := hidp trivial) | (clear tk2; (refine Mm.get5 rtE H rfl (.tmp 2) rfl rfl (En.len HP.out) ?_); (try simp only [Act.put, setIfInBounds_toArray, set_cons_zero, set_cons_succ]); have tk3 := hidp trivial) | (clear tk3; (go_at_call 18; refine (c2.out _).mono ?_; rintro e _ ⟨rfl, hb⟩; replace H := hidp (H.out.call hb); clear c2; clear hb); (try simp only [Act.put, setIfInBounds_toArray, set_cons_zero, set_cons_succ]); have tk4 := hidp trivial) | (clear tk4; (refine Mm.get4 rtE H rfl (.tmp 3) rfl rfl (En.len HQ.out) ?_); (try simp only [Act.put, setIfInBounds_toArray, set_cons_zero, set_cons_succ]); have tk5 := hidp trivial) | (clear tk5; (go_at_call 18; refine (d2.out _).mono ?_; rintro e _ ⟨rfl, hb⟩; replace H := hidp (H.out.call hb); clear d2; clear hb); (try simp only [Act.put, setIfInBounds_toArray, set_cons_zero, set_cons_succ]); have tk6 := hidp trivial) | (clear tk6; (refine Mm.get1 rtE H rfl (.tmp 9) rfl rfl (En.len HX1.out) ?_); (try simp only [Act.put, setIfInBounds_toArray, set_cons_zero, set_cons_succ]); have tk7 := hidp trivial) | (clear tk7; (refine Mm.get0 rtE H rfl (.tmp 10) rfl rfl (En.len HY1.out) ?_); (try simp only [Act.put, setIfInBounds_toArray, set_cons_zero, set_cons_succ]); have tk8 := hidp trivial) | (clear tk8; (go_at_call 19; refine (c3.out _).mono ?_; rintro e _ ⟨rfl, hb⟩; replace H := hidp (H.out.call hb); clear c3; clear hb); (try simp only [Act.put, setIfInBounds_toArray, set_cons_zero, set_cons_succ]); have tk9 := hidp trivial) | (clear tk9; (go_at_call 19; refine (d3.out _).mono ?_; rintro e _ ⟨rfl, hb⟩; replace H := hidp (H.out.call hb); clear d3; clear hb); (try simp only [Act.put, setIfInBounds_toArray, set_cons_zero, set_cons_succ]); have tk10 := hidp trivial))
            try clear tk10
            go_ret
            exact ⟨rfl, H.out.below⟩
          · refine Mm.o_newH rtE H (fun W h => h) rfl rfl rfl ?_
            clear H
            intro b10 _ H nw
            have hb := nw.below

            clear hb nw
            simp only [Act.put, getElem_toArray, getElem_cons_zero, getElem_cons_succ, setIfInBounds_toArray, set_cons_zero, set_cons_succ]
            refine Mm.o_newH rtE H (fun W h => h.tail) rfl rfl rfl ?_
            clear H
            intro b9 _ H nw
            have hb := nw.below

            clear hb nw
            simp only [Act.put, getElem_toArray, getElem_cons_zero, getElem_cons_succ, setIfInBounds_toArray, set_cons_zero, set_cons_succ]
            refine Mm.oput0 rtE H x.row (fun W h => h.tail.tail) rfl rfl (.tmp 9) (.tmp 38) rfl rfl rfl (En.len HP.out) (En.one x) (En.len (rfl : zEn.p.length = 32)) ?_
            intro _ H2 st
            clear st H
            have H := H2
            clear H2
            simp only [Act.put, getElem_toArray, getElem_cons_zero, getElem_cons_succ, setIfInBounds_toArray, set_cons_zero, set_cons_succ]
            refine Mm.oput1 rtE H y.row (fun W h => h.tail.tail) rfl rfl (.tmp 10) (.tmp 39) rfl rfl rfl (En.len HQ.out) (En.one y) (En.len (rfl : zEn.p.length = 32)) ?_
            intro _ H2 st
            clear st H
            have H := H2
            clear H2
            simp only [Act.put, getElem_toArray, getElem_cons_zero, getElem_cons_succ, setIfInBounds_toArray, set_cons_zero, set_cons_succ]
            refine NoPanic.normal ?_
            have tk0 := hidp trivial
            go_wp2_with (first | (clear tk0; (refine Mm.putF0 H rfl 9 (.tmp 40) (.const (.string ⟨#[]⟩)) 36 (.string ⟨#[]⟩) rfl rfl rfl (by kernel_rfl) rfl (by rw [En.len HP.out]; decide) ?_; intro _ H2 st; clear st H; rw [ex1.out] at H2; have H := H2; clear H2); (try simp only [Act.put, setIfInBounds_toArray, set_cons_zero, set_cons_succ]); have tk1 := hidp trivial) | (clear tk1; (refine Mm.putF1 H rfl 9 (.tmp 41) (.const (.string ⟨#[]⟩)) 36 (.string ⟨#[]⟩) rfl rfl rfl (by kernel_rfl) rfl (by rw [En.len HQ.out]; decide) ?_; intro _ H2 st; clear st H; rw [ey1.out] at H2; have H := H2; clear H2); (try simp only [Act.put, setIfInBounds_toArray, set_cons_zero, set_cons_succ]); have tk2 := hidp trivial) | (clear tk2; (refine Mm.get5 rtE H rfl (.tmp 2) rfl rfl (En.len HP.out) ?_); (try simp only [Act.put, setIfInBounds_toArray, set_cons_zero, set_cons_succ]); have tk3 := hidp trivial) | (clear tk3; (go_at_call 18; refine (c2.out _).mono ?_; rintro e _ ⟨rfl, hb⟩; replace H := hidp (H.out.call hb); clear c2; clear hb); (try simp only [Act.put, setIfInBounds_toArray, set_cons_zero, set_cons_succ]); have tk4 := hidp trivial) | (clear tk4; (refine Mm.get4 rtE H rfl (.tmp 3) rfl rfl (En.len HQ.out) ?_); (try simp only [Act.put, setIfInBounds_toArray, set_cons_zero, set_cons_succ]); have tk5 := hidp trivial) | (clear tk5; (go_at_call 18; refine (d2.out _).mono ?_; rintro e _ ⟨rfl, hb⟩; replace H := hidp (H.out.call hb); clear d2; clear hb); (try simp only [Act.put, setIfInBounds_toArray, set_cons_zero, set_cons_succ]); have tk6 := hidp trivial) | (clear tk6; (refine Mm.get0 rtE H rfl (.tmp 9) rfl rfl (En.len HX1.out) ?_); (try simp only [Act.put, setIfInBounds_toArray, set_cons_zero, set_cons_succ]); have tk7 := hidp trivial) | (clear tk7; (refine Mm.get1 rtE H rfl (.tmp 10) rfl rfl (En.len HY1.out) ?_); (try simp only [Act.put, setIfInBounds_toArray, set_cons_zero, set_cons_succ]); have tk8 := hidp trivial) | (clear tk8; (go_at_call 19; refine (c3.out _).mono ?_; rintro e _ ⟨rfl, hb⟩; replace H := hidp (H.out.call hb); clear c3; clear hb); (try simp only [Act.put, setIfInBounds_toArray, set_cons_zero, set_cons_succ]); have tk9 := hidp trivial) | (clear tk9; (go_at_call 19; refine (d3.out _).mono ?_; rintro e _ ⟨rfl, hb⟩; replace H := hidp (H.out.call hb); clear d3; clear hb); (try simp only [Act.put, setIfInBounds_toArray, set_cons_zero, set_cons_succ]); have tk10 := hidp trivial))
            try clear tk10
            go_ret
            exact ⟨rfl, H.out.below⟩
      · have qh : ∀ W, (Op.equalIn 10000 25 (.agg (u8s U).toArray) (.agg (u8s V).toArray)).run Tryz.prog W = .ok false W := fun W => by
          have := eqin_hd 9998 W U V HU.out HV.out
          simpa [huv] using this
        clear hok hok2 hx hy c2 d2 s1 s2 hU hV huv
        go_enter Tryz.func4, Tryz.ntmps4
        have tk0 := hidp trivial
        go_wp2_with (first | (clear tk0; (refine Mm.box 27 H rfl (.tmp 0) rfl x.row rfl ?_; clear H; intro b2 _ H nw; have hb := nw.below; clear hb nw); (try simp only [Act.put, setIfInBounds_toArray, set_cons_zero, set_cons_succ]); have tk1 := hidp trivial) | (clear tk1; (refine Mm.box 27 H rfl (.tmp 1) rfl y.row rfl ?_; clear H; intro b3 _ H nw; have hb := nw.below; clear hb nw); (try simp only [Act.put, setIfInBounds_toArray, set_cons_zero, set_cons_succ]); have tk2 := hidp trivial) | (clear tk2; (go_at_call 8; refine (lives19_any _ (HI.out.below H.out.below (Nat.le_refl _)) (HK.out.below H.out.below hkp)).mono ?_; rintro e _ ⟨rfl, hb⟩; replace H := hidp (H.out.call hb); clear hb); (try simp only [Act.put, setIfInBounds_toArray, set_cons_zero, set_cons_succ]); have tk3 := hidp trivial) | (clear tk3; (refine Mm.get1 rtE H rfl (.tmp 2) rfl rfl (En.len HP.out) ?_); (try simp only [Act.put, setIfInBounds_toArray, set_cons_zero, set_cons_succ]); have tk4 := hidp trivial) | (clear tk4; (go_at_call 17; refine (c1.out _ (HI.out.below H.out.below (Nat.le_refl _)) (HK.out.below H.out.below hkp)).mono ?_; rintro e _ ⟨rfl, hb⟩; replace H := hidp (H.out.call hb); clear c1; clear hb); (try simp only [Act.put, setIfInBounds_toArray, set_cons_zero, set_cons_succ]); have tk5 := hidp trivial) | (clear tk5; (refine Mm.new rtH H (some 5) rfl rfl rfl ?_; clear H; intro b5 _ H nw; have hb := nw.below; clear hb nw); (try simp only [Act.put, setIfInBounds_toArray, set_cons_zero, set_cons_succ]); have tk6 := hidp trivial) | (clear tk6; (refine Mm.put0 rtH H rfl (.tmp 5) (.tmp 20) (u8s U) rfl rfl rfl HU8.out (u8_one _) rfl ?_; intro _ H2 st; clear st H; have H := H2; clear H2); (try simp only [Act.put, setIfInBounds_toArray, set_cons_zero, set_cons_succ]); have tk7 := hidp trivial) | (clear tk7; (refine Mm.get1 rtE H rfl (.tmp 3) rfl rfl (En.len HQ.out) ?_); (try simp only [Act.put, setIfInBounds_toArray, set_cons_zero, set_cons_succ]); have tk8 := hidp trivial) | (clear tk8; (go_at_call 17; refine (d1.out _ (HI.out.below H.out.below (Nat.le_refl _)) (HK.out.below H.out.below hkp)).mono ?_; rintro e _ ⟨rfl, hb⟩; replace H := hidp (H.out.call hb); clear d1; clear hb); (try simp only [Act.put, setIfInBounds_toArray, set_cons_zero, set_cons_succ]); have tk9 := hidp trivial) | (clear tk9; (refine Mm.new rtH H (some 7) rfl rfl rfl ?_; clear H; intro b7 _ H nw; have hb := nw.below; clear hb nw); (try simp only [Act.put, setIfInBounds_toArray, set_cons_zero, set_cons_succ]); have tk10 := hidp trivial) | (clear tk10; (refine Mm.put0 rtH H rfl (.tmp 7) (.tmp 25) (u8s V) rfl rfl rfl HV8.out (u8_one _) rfl ?_; intro _ H2 st; clear st H; have H := H2; clear H2); (try simp only [Act.put, setIfInBounds_toArray, set_cons_zero, set_cons_succ]); have tk11 := hidp trivial) | (clear tk11; (refine Mm.get1 rtH H rfl (.tmp 5) rfl rfl HU8.out ?_); (try simp only [Act.put, setIfInBounds_toArray, set_cons_zero, set_cons_succ]); have tk12 := hidp trivial) | (clear tk12; (refine Mm.get0 rtH H rfl (.tmp 7) rfl rfl HV8.out ?_); (try simp only [Act.put, setIfInBounds_toArray, set_cons_zero, set_cons_succ]); have tk13 := hidp trivial))
        try clear tk13
        go_ret
        exact ⟨rfl, H.out.below⟩
end Go.Proofs.YtbgooppmhgaicaaGreatDoor.En
