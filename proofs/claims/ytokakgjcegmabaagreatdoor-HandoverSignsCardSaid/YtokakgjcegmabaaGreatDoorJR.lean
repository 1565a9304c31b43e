import Derived.Test.YtokakgjcegmabaaGreatDoorJQ
import Derived.Test.YtokakgjcegmabaaGreatDoorJM
import Derived.Test.YtokakgjcegmabaaGreatDoorJN
import Derived.Deep.Cut
set_option linter.unusedVariables false
set_option linter.unusedSimpArgs false
set_option maxHeartbeats 64000000
set_option maxRecDepth 100000
namespace Go.Proofs.YtokakgjcegmabaaGreatDoor.Ho
open Go.RowKit
open List (getElem_toArray getElem_cons_zero getElem_cons_succ setIfInBounds_toArray set_cons_zero set_cons_succ)
structure Rg (b : Nat) (w W : World) : Prop where
 size : w.heap.size ≤ W.heap.size
 below : ∀ N, N ≤ b → Below N w W
 other : ∀ c, c ≠ b → c < w.heap.size → W.heap[c]? = w.heap[c]?
theorem Rg.of_below {b : Nat} {w W : World} (h : Below w.heap.size w W) (hb : b < w.heap.size) : Rg b w W :=
 ⟨h.size, fun N hN => h.mono (by omega), fun c _ hc => h.block c hc⟩
theorem Rg.of_stp {b : Nat} {w U W : World} (h : Below w.heap.size w U) (st : Stp b U W) (hb : b < w.heap.size) : Rg b w W :=
 ⟨by rw [st.size]; exact h.size, fun N hN => (h.mono (by omega)).trans (st.below N hN), fun c hc hl => (st.other c hc).trans (h.block c hl)⟩
theorem Rg.trans {b : Nat} {w U W : World} (h : Rg b w U) (k : Rg b U W) : Rg b w W :=
 ⟨Nat.le_trans h.size k.size, fun N hN => (h.below N hN).trans (k.below N hN), fun c hc hl => (k.other c hc (Nat.lt_of_lt_of_le hl h.size)).trans (h.other c hc hl)⟩
theorem Rg.fin {b : Nat} {w U W : World} (h : Rg b w U) (k : Below w.heap.size U W) (hb : b < w.heap.size) : Rg b w W :=
 ⟨Nat.le_trans h.size k.size, fun N hN => (h.below N hN).trans (k.mono (by omega)), fun c hc hl => (k.block c hl).trans (h.other c hc hl)⟩
theorem reb {N b : Nat} {w0 w W : World} {L : List Mm.Bx} (h : Mm.M N w0 w L) (k : Rg b w W) (hb : b < N) : Mm.M N W W L :=
 ⟨Below.refl _ _, Nat.le_trans h.le k.size, h.ge, h.inc, fun x hx => (k.other x.b (by have := h.ge x hx; omega) (h.has x hx).lt).trans (h.has x hx)⟩
theorem rgAt {N b T : Nat} {w0 w W : World} {L : List Mm.Bx} {xs ys : List Value} (h : Mm.M N w0 w L) (i : Nat) (hi : L[i]? = some ⟨b, T, ys⟩) (k : Rg b w W) (ha : Arr W b T xs) : Mm.M N w0 W (L.set i ⟨b, T, xs⟩) := by
 have h1 : Mm.M N w0 w L := h
 obtain ⟨hl, e1⟩ := List.getElem?_eq_some_iff.1 hi
 have hge := h.ge _ (List.mem_of_getElem? hi)
 have mem : ∀ x ∈ L.set i ⟨b, T, xs⟩, x = ⟨b, T, xs⟩ ∨ ∃ j, L[j]? = some x ∧ j ≠ i := by
  intro x hx
  obtain ⟨j, hj, rfl⟩ := List.getElem_of_mem hx
  by_cases e : j = i
  · subst e; left; simp
  · right; refine ⟨j, ?_, e⟩
    rw [List.getElem_set_ne (by omega)]
    exact List.getElem?_eq_getElem _
 refine ⟨h.below.trans (k.below N hge), Nat.le_trans h.le k.size, fun x hx => ?_, ?_, fun x hx => ?_⟩
 · rcases mem x hx with rfl | ⟨j, hj, _⟩
   · exact hge
   · exact h.ge x (List.mem_of_getElem? hj)
 · have hp := h.inc
   rw [List.pairwise_iff_getElem] at hp ⊢
   have hb : ∀ j (hj : j < (L.set i ⟨b, T, xs⟩).length), ((L.set i ⟨b, T, xs⟩)[j]).b = (L[j]'(by simpa using hj)).b := by
    intro j hj
    by_cases e : j = i
    · subst e; simp [e1]
    · rw [List.getElem_set_ne (by omega)]
   intro j q hj hq hlt
   rw [hb j hj, hb q hq]
   exact hp j q _ _ hlt
 · rcases mem x hx with rfl | ⟨j, hj, hne⟩
   · exact ha
   · exact (k.other x.b (Mm.M.ne h.inc hi hj hne) (h.has x (List.mem_of_getElem? hj)).lt).trans (h.has x (List.mem_of_getElem? hj))
def ringR (S : ByteArray) (h m : Nat) : List Value := [.string S, .int .i64 (h : Int), .int .i64 (m : Int)]
def hsE (S : ByteArray) (h m : Nat) (d : De) : Int := if dOk d = true then sgE S h m else 2
def hsV (S : ByteArray) (h m : Nat) (d : De) : De := if dOk d = true ∧ sgE S h m = 0 then wSig d (sgS S h m (dT d).data.toList) else d
def hsR (S : ByteArray) (h m : Nat) (d : De) : List Value := if dOk d = true then rgA S h m else ringR S h m
def hvE (gs : List Gr) (d : De) : Int := if dOk d = true then bvE gs (sgn d) d.i (dT d) d.g else 2
theorem hsign_any (w : World) (b : Nat) (S : ByteArray) (h m : Nat) (hok : kyOk S h m = true) (hA : Arr w b 118 (ringR S h m)) (d : De) (hd : d.ok) (hI : IT w) (hT : HT w) (hK : KT w) :
 Calls Tryz.prog 16 #[.pointer (some ⟨b, 0, none⟩), .agg d.row.toArray] w fun e w' => e = .returned (.tuple #[.agg (hsV S h m d).row.toArray, .int .i64 (hsE S h m d)]) ∧ Rg b w w' ∧ Arr w' b 118 (hsR S h m d) := by
 have hbN := hA.lt; have hkp := hK.pos
 have HA := hidp hA
 have HI := hidp hI; have HT0 := hidp hT; have HK := hidp hK; clear hI hT hK hA
 have hts := dT_size d
 have cs := hidp (fun W (ha : Arr W b 118 (ringR S h m)) (hk : KT W) => krSign_any W b S h m hok (dT d) (by omega) ha hk)
 obtain ⟨k, r, ep, ix, hu, nx, sg⟩ := d
 have ct := hidp (show ∀ W, IT W → HT W → Calls Tryz.prog 56 #[.agg #[.int .u8 (k : Int), .string r, .int .i64 ep, .int .i64 ix, .int .i64 hu, .int .i64 nx, .string sg]] W (fun e w' => e = .returned (.tuple #[.string (dT (⟨k, r, ep, ix, hu, nx, sg⟩ : De)), .int .i64 (dE (⟨k, r, ep, ix, hu, nx, sg⟩ : De))]) ∧ Below W.heap.size W w') from fun W h h' => text_any W (⟨k, r, ep, ix, hu, nx, sg⟩ : De) hd h h')
 have co := hidp (show ∀ W, Calls Tryz.prog 63 #[.agg #[.int .u8 (k : Int), .string r, .int .i64 ep, .int .i64 ix, .int .i64 hu, .int .i64 nx, .string sg]] W (fun e w' => e = .returned (.agg #[.int .u8 (k : Int), .string r, .int .i64 ep, .int .i64 ix, .int .i64 hu, .int .i64 nx, .string sg]) ∧ Below W.heap.size W w') from fun W => owned_any W k r ep ix hu nx sg (by have := hd.2.1; simp only at this; omega) (by have := hd.2.2; simp only at this; omega))
 show Calls Tryz.prog 16 #[.pointer (some ⟨b, 0, none⟩), .agg #[.int .u8 (k : Int), .string r, .int .i64 ep, .int .i64 ix, .int .i64 hu, .int .i64 nx, .string sg]] w _
 have H := hidp (Mm.M.nil w)
 clear hd hok
 obtain ⟨T, hT⟩ : ∃ T, dT (⟨k, r, ep, ix, hu, nx, sg⟩ : De) = T := ⟨_, rfl⟩
 cases hok : dOk (⟨k, r, ep, ix, hu, nx, sg⟩ : De) with
 | false =>
   have HV := hidp (show hsV S h m (⟨k, r, ep, ix, hu, nx, sg⟩ : De) = (⟨k, r, ep, ix, hu, nx, sg⟩ : De) from by unfold hsV; rw [hok]; rfl)
   have HE := hidp (show hsE S h m (⟨k, r, ep, ix, hu, nx, sg⟩ : De) = 2 from by unfold hsE; rw [hok]; rfl)
   have HRR := hidp (show hsR S h m (⟨k, r, ep, ix, hu, nx, sg⟩ : De) = ringR S h m from by unfold hsR; rw [hok]; rfl)
   rw [dE_no hok, hT] at ct
   clear hok hT cs hts
   go_enter Tryz.func16, Tryz.ntmps16
   have tk0 := hT
   go_wp2_with (first | (clear tk0; (refine Mm.box 26 H rfl (.tmp 1) rfl [.int .u8 (k : Int), .string r, .int .i64 ep, .int .i64 ix, .int .i64 hu, .int .i64 nx, .string sg] rfl ?_; clear H; intro b3 _ H nw; clear nw); (try simp only [Act.put, aQ]); have tk1 := hT) | (clear tk1; (refine Mm.new rtD H (some 4) rfl rfl rfl ?_; clear H; intro b4 _ H nw; clear nw); (try simp only [Act.put, aQ]); have tk2 := hT) | (clear tk2; (refine Mm.get1 rtD H rfl (.tmp 3) rfl rfl rfl ?_); (try simp only [Act.put, aQ]); have tk3 := hT) | (clear tk3; (go_at_call 63; refine (co.out _).mono ?_; rintro e _ ⟨rfl, hb⟩; replace H := hidp (H.out.call hb); clear co; clear hb); (try simp only [Act.put, aQ]); have tk4 := hT) | (clear tk4; (refine Mm.put1 rtD H rfl (.tmp 3) (.tmp 10) [.int .u8 (k : Int), .string r, .int .i64 ep, .int .i64 ix, .int .i64 hu, .int .i64 nx, .string sg] rfl rfl rfl rfl (by simp [Value.oneCell']) rfl ?_; intro _ H2 st; clear st H; have H := H2; clear H2); (try simp only [Act.put, aQ]); have tk5 := hT) | (clear tk5; (refine Mm.get1 rtD H rfl (.tmp 3) rfl rfl rfl ?_); (try simp only [Act.put, aQ]); have tk6 := hT) | (clear tk6; (go_at_call 56; refine (ct.out _ (HI.out.below H.out.below (Nat.le_refl _)) (HT0.out.below H.out.below (Nat.le_refl _))).mono ?_; rintro e _ ⟨rfl, hb⟩; replace H := hidp (H.out.call hb); clear ct; clear hb); (try simp only [Act.put, aQ]); have tk7 := hT) | (clear tk7; (refine Mm.get1 rtD H rfl (.tmp 3) rfl rfl rfl ?_); (try simp only [Act.put, aQ]); have tk8 := hT) | (clear tk8; (refine Mm.put0 rtD H rfl (.tmp 4) (.tmp 18) [.int .u8 (k : Int), .string r, .int .i64 ep, .int .i64 ix, .int .i64 hu, .int .i64 nx, .string sg] rfl rfl rfl rfl (by simp [Value.oneCell']) rfl ?_; intro _ H2 st; clear st H; have H := H2; clear H2); (try simp only [Act.put, aQ]); have tk9 := hT))
   try clear tk9
   refine bodyPost_ret (Mm.ret_rowv rtD Tryz.results16 _ b4 _ _ rfl rfl H.out.at0 rfl) rfl ⟨by rw [HV.out, HE.out]; rfl, Rg.of_below H.out.below hbN, by rw [HRR.out]; exact HA.out.below H.out.below hbN⟩
 | true =>
   have HRR := hidp (show hsR S h m (⟨k, r, ep, ix, hu, nx, sg⟩ : De) = rgA S h m from by unfold hsR; rw [hok]; rfl)
   rw [dE_yes hok, hT] at ct
   rw [hT] at cs
   by_cases h0 : sgE S h m = 0
   · obtain ⟨G, hG⟩ : ∃ G, sgS S h m T.data.toList = G := ⟨_, rfl⟩
     rw [h0, hG] at cs
     have HV := hidp (show hsV S h m (⟨k, r, ep, ix, hu, nx, sg⟩ : De) = ⟨k, r, ep, ix, hu, nx, G⟩ from by unfold hsV; rw [if_pos ⟨hok, h0⟩, hT, hG]; rfl)
     have HE := hidp (show hsE S h m (⟨k, r, ep, ix, hu, nx, sg⟩ : De) = 0 from by unfold hsE; rw [hok, if_pos rfl, h0])
     clear hok hT h0 hG hts
     go_enter Tryz.func16, Tryz.ntmps16
     have tk0 := hT
     go_wp2_with (first | (clear tk0; (refine Mm.box 26 H rfl (.tmp 1) rfl [.int .u8 (k : Int), .string r, .int .i64 ep, .int .i64 ix, .int .i64 hu, .int .i64 nx, .string sg] rfl ?_; clear H; intro b3 _ H nw; clear nw); (try simp only [Act.put, aQ]); have tk1 := hT) | (clear tk1; (refine Mm.new rtD H (some 4) rfl rfl rfl ?_; clear H; intro b4 _ H nw; clear nw); (try simp only [Act.put, aQ]); have tk2 := hT) | (clear tk2; (refine Mm.get1 rtD H rfl (.tmp 3) rfl rfl rfl ?_); (try simp only [Act.put, aQ]); have tk3 := hT) | (clear tk3; (go_at_call 63; refine (co.out _).mono ?_; rintro e _ ⟨rfl, hb⟩; replace H := hidp (H.out.call hb); clear co; clear hb); (try simp only [Act.put, aQ]); have tk4 := hT) | (clear tk4; (refine Mm.put1 rtD H rfl (.tmp 3) (.tmp 10) [.int .u8 (k : Int), .string r, .int .i64 ep, .int .i64 ix, .int .i64 hu, .int .i64 nx, .string sg] rfl rfl rfl rfl (by simp [Value.oneCell']) rfl ?_; intro _ H2 st; clear st H; have H := H2; clear H2); (try simp only [Act.put, aQ]); have tk5 := hT) | (clear tk5; (refine Mm.get1 rtD H rfl (.tmp 3) rfl rfl rfl ?_); (try simp only [Act.put, aQ]); have tk6 := hT) | (clear tk6; (go_at_call 56; refine (ct.out _ (HI.out.below H.out.below (Nat.le_refl _)) (HT0.out.below H.out.below (Nat.le_refl _))).mono ?_; rintro e _ ⟨rfl, hb⟩; replace H := hidp (H.out.call hb); clear ct; clear hb); (try simp only [Act.put, aQ]); have tk7 := hT) | (clear tk7; (go_at_call 39; refine (cs.out _ (HA.out.below H.out.below hbN) (HK.out.below H.out.below hkp)).mono ?_; rintro e w2 ⟨rfl, W2, hb2, st2, ha2⟩; have HR := hidp ((Rg.of_below H.out.below hbN).trans (Rg.of_stp hb2 st2 (Nat.lt_of_lt_of_le hbN H.out.le))); replace H := hidp (reb H.out (Rg.of_stp hb2 st2 (Nat.lt_of_lt_of_le hbN H.out.le)) hbN); have HAR := hidp ha2; clear hb2 st2 ha2 cs); (try simp only [Act.put, aQ]); have tk8 := hT) | (clear tk8; (refine Mm.putF1 H rfl 9 (.tmp 31) (.tmp 30) 6 (.string G) rfl rfl rfl (by kernel_rfl) rfl (of_decide_eq_true rfl) ?_; intro _ H2 st; clear st H; have H : Hid (Mm.M w.heap.size w2 _ ([⟨b4, 26, zDr⟩, ⟨b3, 26, [.int .u8 (k : Int), .string r, .int .i64 ep, .int .i64 ix, .int .i64 hu, .int .i64 nx, .string G]⟩])) := H2; clear H2); (try simp only [Act.put, aQ]); have tk9 := hT) | (clear tk9; (refine Mm.get1 rtD H rfl (.tmp 3) rfl rfl rfl ?_); (try simp only [Act.put, aQ]); have tk10 := hT) | (clear tk10; (refine Mm.put0 rtD H rfl (.tmp 4) (.tmp 32) [.int .u8 (k : Int), .string r, .int .i64 ep, .int .i64 ix, .int .i64 hu, .int .i64 nx, .string G] rfl rfl rfl rfl (by simp [Value.oneCell']) rfl ?_; intro _ H2 st; clear st H; have H := H2; clear H2); (try simp only [Act.put, aQ]); have tk11 := hT))
     try clear tk11
     refine bodyPost_ret (Mm.ret_rowv rtD Tryz.results16 _ b4 _ _ rfl rfl H.out.at0 rfl) rfl ⟨by rw [HV.out, HE.out]; rfl, HR.out.fin H.out.below hbN, by rw [HRR.out]; exact HAR.out.below H.out.below hbN⟩
   · obtain ⟨G, hG⟩ : ∃ G, sgS S h m T.data.toList = G := ⟨_, rfl⟩
     rw [hG] at cs
     have HV := hidp (show hsV S h m (⟨k, r, ep, ix, hu, nx, sg⟩ : De) = (⟨k, r, ep, ix, hu, nx, sg⟩ : De) from by unfold hsV; rw [if_neg (fun g => h0 g.2)])
     have HE := hidp (show hsE S h m (⟨k, r, ep, ix, hu, nx, sg⟩ : De) = sgE S h m from by unfold hsE; rw [hok, if_pos rfl])
     obtain ⟨E, hE⟩ : ∃ E, sgE S h m = E := ⟨_, rfl⟩
     rw [hE] at cs HE h0
     have e1 : (E != 0) = true := by simpa using h0
     clear hok hT h0 hG hts hE
     go_enter Tryz.func16, Tryz.ntmps16
     have tk0 := hT
     go_wp2_with (first | (clear tk0; (refine Mm.box 26 H rfl (.tmp 1) rfl [.int .u8 (k : Int), .string r, .int .i64 ep, .int .i64 ix, .int .i64 hu, .int .i64 nx, .string sg] rfl ?_; clear H; intro b3 _ H nw; clear nw); (try simp only [Act.put, aQ]); have tk1 := hT) | (clear tk1; (refine Mm.new rtD H (some 4) rfl rfl rfl ?_; clear H; intro b4 _ H nw; clear nw); (try simp only [Act.put, aQ]); have tk2 := hT) | (clear tk2; (refine Mm.get1 rtD H rfl (.tmp 3) rfl rfl rfl ?_); (try simp only [Act.put, aQ]); have tk3 := hT) | (clear tk3; (go_at_call 63; refine (co.out _).mono ?_; rintro e _ ⟨rfl, hb⟩; replace H := hidp (H.out.call hb); clear co; clear hb); (try simp only [Act.put, aQ]); have tk4 := hT) | (clear tk4; (refine Mm.put1 rtD H rfl (.tmp 3) (.tmp 10) [.int .u8 (k : Int), .string r, .int .i64 ep, .int .i64 ix, .int .i64 hu, .int .i64 nx, .string sg] rfl rfl rfl rfl (by simp [Value.oneCell']) rfl ?_; intro _ H2 st; clear st H; have H := H2; clear H2); (try simp only [Act.put, aQ]); have tk5 := hT) | (clear tk5; (refine Mm.get1 rtD H rfl (.tmp 3) rfl rfl rfl ?_); (try simp only [Act.put, aQ]); have tk6 := hT) | (clear tk6; (go_at_call 56; refine (ct.out _ (HI.out.below H.out.below (Nat.le_refl _)) (HT0.out.below H.out.below (Nat.le_refl _))).mono ?_; rintro e _ ⟨rfl, hb⟩; replace H := hidp (H.out.call hb); clear ct; clear hb); (try simp only [Act.put, aQ]); have tk7 := hT) | (clear tk7; (go_at_call 39; refine (cs.out _ (HA.out.below H.out.below hbN) (HK.out.below H.out.below hkp)).mono ?_; rintro e w2 ⟨rfl, W2, hb2, st2, ha2⟩; have HR := hidp ((Rg.of_below H.out.below hbN).trans (Rg.of_stp hb2 st2 (Nat.lt_of_lt_of_le hbN H.out.le))); replace H := hidp (reb H.out (Rg.of_stp hb2 st2 (Nat.lt_of_lt_of_le hbN H.out.le)) hbN); have HAR := hidp ha2; clear hb2 st2 ha2 cs); (try simp only [Act.put, aQ]); have tk8 := hT) | (clear tk8; (refine Mm.get1 rtD H rfl (.tmp 3) rfl rfl rfl ?_); (try simp only [Act.put, aQ]); have tk9 := hT) | (clear tk9; (refine Mm.put0 rtD H rfl (.tmp 4) (.tmp 28) [.int .u8 (k : Int), .string r, .int .i64 ep, .int .i64 ix, .int .i64 hu, .int .i64 nx, .string sg] rfl rfl rfl rfl (by simp [Value.oneCell']) rfl ?_; intro _ H2 st; clear st H; have H := H2; clear H2); (try simp only [Act.put, aQ]); have tk10 := hT))
     try clear tk10
     refine bodyPost_ret (Mm.ret_rowv rtD Tryz.results16 _ b4 _ _ rfl rfl H.out.at0 rfl) rfl ⟨by rw [HV.out, HE.out]; rfl, HR.out.fin H.out.below hbN, by rw [HRR.out]; exact HAR.out.below H.out.below hbN⟩
theorem hverify_any (w : World) (v : Value) (gs : List Gr) (hv : GsAt w v gs) (d : De) (hd : d.ok) (hI : IT w) (hT : HT w) (hK : KT w) :
 Calls Tryz.prog 13 #[v, .agg d.row.toArray] w fun e w' => e = .returned (.int .i64 (hvE gs d)) ∧ Below w.heap.size w w' := by
 have hkp := hK.pos
 have HVV := hidp hv
 have HI := hidp hI; have HT0 := hidp hT; have HK := hidp hK; clear hI hT hK hv
 have hts := dT_size d
 have cv := hidp (fun W (hg : GsAt W v gs) (hk : KT W) => bverify_any W v gs hg (sgn d) d.i (dT d) d.g (by omega) (by have := hd.2.2; omega) hk)
 obtain ⟨k, r, ep, ix, hu, nx, sg⟩ := d
 have ct := hidp (show ∀ W, IT W → HT W → Calls Tryz.prog 56 #[.agg #[.int .u8 (k : Int), .string r, .int .i64 ep, .int .i64 ix, .int .i64 hu, .int .i64 nx, .string sg]] W (fun e w' => e = .returned (.tuple #[.string (dT (⟨k, r, ep, ix, hu, nx, sg⟩ : De)), .int .i64 (dE (⟨k, r, ep, ix, hu, nx, sg⟩ : De))]) ∧ Below W.heap.size W w') from fun W h h' => text_any W (⟨k, r, ep, ix, hu, nx, sg⟩ : De) hd h h')
 have csg := hidp (show ∀ W, Calls Tryz.prog 58 #[.agg #[.int .u8 (k : Int), .string r, .int .i64 ep, .int .i64 ix, .int .i64 hu, .int .i64 nx, .string sg]] W (fun e w' => e = .returned (.int .i64 (sgn (⟨k, r, ep, ix, hu, nx, sg⟩ : De))) ∧ Below W.heap.size W w') from fun W => signer_any W k r ep ix hu nx sg)
 show Calls Tryz.prog 13 #[v, .agg #[.int .u8 (k : Int), .string r, .int .i64 ep, .int .i64 ix, .int .i64 hu, .int .i64 nx, .string sg]] w _
 have H := hidp (Mm.M.nil w)
 clear hd
 have hVE : hvE gs (⟨k, r, ep, ix, hu, nx, sg⟩ : De) = if dOk (⟨k, r, ep, ix, hu, nx, sg⟩ : De) = true then bvE gs (sgn (⟨k, r, ep, ix, hu, nx, sg⟩ : De)) ix (dT (⟨k, r, ep, ix, hu, nx, sg⟩ : De)) sg else 2 := rfl
 cases hok : dOk (⟨k, r, ep, ix, hu, nx, sg⟩ : De) with
 | false =>
   rw [hVE, hok]
   rw [dE_no hok] at ct
   obtain ⟨T, hT⟩ : ∃ T, dT (⟨k, r, ep, ix, hu, nx, sg⟩ : De) = T := ⟨_, rfl⟩
   rw [hT] at ct
   show Calls _ _ _ _ fun e w' => e = .returned (.int .i64 2) ∧ _
   clear hok hT hVE csg hts cv
   go_enter Tryz.func13, Tryz.ntmps13
   have tk0 := hT
   go_wp2_with (first | (clear tk0; (refine Mm.box 26 H rfl (.tmp 1) rfl [.int .u8 (k : Int), .string r, .int .i64 ep, .int .i64 ix, .int .i64 hu, .int .i64 nx, .string sg] rfl ?_; clear H; intro b3 _ H nw; clear nw); (try simp only [Act.put, aQ]); have tk1 := hT) | (clear tk1; (refine Mm.get0 rtD H rfl (.tmp 3) rfl rfl rfl ?_); (try simp only [Act.put, aQ]); have tk2 := hT) | (clear tk2; (go_at_call 56; refine (ct.out _ (HI.out.below H.out.below (Nat.le_refl _)) (HT0.out.below H.out.below (Nat.le_refl _))).mono ?_; rintro e _ ⟨rfl, hb⟩; replace H := hidp (H.out.call hb); clear ct; clear hb); (try simp only [Act.put, aQ]); have tk3 := hT))
   try clear tk3
   go_ret
   exact ⟨rfl, H.out.below⟩
 | true =>
   rw [hVE, hok, if_pos rfl]
   rw [dE_yes hok] at ct
   simp only at cv hts
   obtain ⟨T, hT⟩ : ∃ T, dT (⟨k, r, ep, ix, hu, nx, sg⟩ : De) = T := ⟨_, rfl⟩
   obtain ⟨sn, hsn⟩ : ∃ sn, sgn (⟨k, r, ep, ix, hu, nx, sg⟩ : De) = sn := ⟨_, rfl⟩
   rw [hT] at ct cv ⊢
   rw [hsn] at csg cv ⊢
   obtain ⟨VE, hVE2⟩ : ∃ VE, bvE gs sn ix T sg = VE := ⟨_, rfl⟩
   rw [hVE2] at cv ⊢
   clear hok hT hVE hsn hVE2 hts
   go_enter Tryz.func13, Tryz.ntmps13
   have tk0 := hT
   go_wp2_with (first | (clear tk0; (refine Mm.box 26 H rfl (.tmp 1) rfl [.int .u8 (k : Int), .string r, .int .i64 ep, .int .i64 ix, .int .i64 hu, .int .i64 nx, .string sg] rfl ?_; clear H; intro b3 _ H nw; clear nw); (try simp only [Act.put, aQ]); have tk1 := hT) | (clear tk1; (refine Mm.get0 rtD H rfl (.tmp 3) rfl rfl rfl ?_); (try simp only [Act.put, aQ]); have tk2 := hT) | (clear tk2; (go_at_call 56; refine (ct.out _ (HI.out.below H.out.below (Nat.le_refl _)) (HT0.out.below H.out.below (Nat.le_refl _))).mono ?_; rintro e _ ⟨rfl, hb⟩; replace H := hidp (H.out.call hb); clear ct; clear hb); (try simp only [Act.put, aQ]); have tk3 := hT))
   try clear tk3
   refine Mm.region H (.take 0 (.take 1 (.take 3 (.take 4 (.take 5 (.take 6 (.take 7 (.one 2 (.one 8 (.take 9 .done)))))))))) (by kernel_rfl) (by kernel_rfl) (by simp [Scr.depth]) (by kernel_rfl) ?_
   clear H
   intro _ H hb
   clear hb
   apply s_val
   case ho | hw => rfl
   case hv => intro w hw; go_simp; first | done | rfl
   simp only [Act.put, aP]
   refine Mm.sget0 rtD (fun w h => h) rfl rfl (.tmp 3) rfl rfl rfl ?_
   simp only [Act.put, aP]
   apply s_val
   case ho | hw => rfl
   case hv => intro w hw; go_simp; first | done | rfl
   simp only [Act.put, aP]
   refine Mm.sld0 naI (fun w h => h) rfl rfl (.tmp 18) 3 _ rfl rfl rfl ?_
   iterate 2
    simp only [Act.put, aP]
    apply s_val
    case ho | hw => rfl
    case hv => intro w hw; go_simp; first | done | rfl
   simp only [Act.put, aP]
   refine Mm.sld0 naS (fun w h => h) rfl rfl (.tmp 21) 6 _ rfl rfl rfl ?_
   simp only [Act.put, aP]
   refine Mm.o_callH (v := .int .i64 sn) H (fun W h => h) rfl rfl 58 (#[.agg #[.int .u8 (k : Int), .string r, .int .i64 ep, .int .i64 ix, .int .i64 hu, .int .i64 nx, .string sg]]) (by go_simp; first | done | rfl) (csg.out _) ?_
   clear H
   intro _ H hb
   clear hb
   simp only [Act.put, aP]
   refine Mm.o_callH (v := .int .i64 VE) H (fun W h => h) rfl rfl 57 (#[v, .int .i64 sn, .int .i64 ix, .string T, .string sg]) (by go_simp; first | done | rfl) (cv.out _ (HVV.out.to H.out.below) (HK.out.below H.out.below hkp)) ?_
   clear H
   intro _ H hb
   clear hb
   simp only [Act.put, aP]
   apply s_val
   case ho | hw => rfl
   case hv => intro w hw; go_simp; first | done | rfl
   simp only [Act.put, aP]
   refine NoPanic.normal ?_
   go_wp2
   go_ret
   exact ⟨rfl, H.out.below⟩
end Go.Proofs.YtokakgjcegmabaaGreatDoor.Ho
namespace Go.Proofs.YtokakgjcegmabaaGreatDoor.Ho
open Go.RowKit
open List (getElem_toArray getElem_cons_zero getElem_cons_succ setIfInBounds_toArray set_cons_zero set_cons_succ)
theorem okB_one {g : Gr} (h : vG g = true) : okB [g] = true := by
 unfold okB okTo
 simp [Go.Proofs.YtokakgjcegmabaaGreatDoor.okAt, h]
theorem fi_one {g : Gr} (h : vG g = true) (s t : Int) : fiE [g] s t = (if fdG s t g = true then 0 else 3) ∧ (fdG s t g = true → fiV [g] s t = g) := by
 have e : [g].findIdx (fdG s t) = if fdG s t g = true then 0 else 1 := by
  rw [List.findIdx_cons]; cases fdG s t g <;> simp
 refine ⟨?_, fun hd => ?_⟩
 · unfold fiE
   rw [okB_one h, if_pos rfl, e]
   split <;> simp
 · unfold fiV
   rw [okB_one h, if_pos rfl, e, if_pos hd]; rfl
theorem gs_one {W : World} {b : Nat} {g : Gr} (hg : g.ok) (ha : Arr W b 61 g.row) : GsAt W (.slice (some ⟨b, 0, none⟩) 1 1) [g] :=
 ⟨⟨rows_all (by intro x hx; simp at hx; subst hx; exact hg), .inr ⟨b, 0, 1, rfl, Nat.le_refl _, ha.lt, by have := ha.range; simpa [rows] using this⟩⟩, by intro x hx; simp at hx; subst hx; exact hg⟩
theorem rwG : Rw.RowTy Tryz.prog 27 61 36 64 zG := by
 refine ⟨by decide, by decide, by decide, rfl, by kernel_rfl, by kernel_rfl, ⟨_, Tryz.underlying61⟩, by kernel_rfl⟩
theorem fill_step (place : Nat → Option (Nat × Nat)) (cs : List Value) (i off size : Nat) (v : Value) (rest : List (Nat × Value)) (hp : place i = some (off, size)) (hs : v.cells.size = size) (hl : off + size ≤ cs.length) :
 Instr.fill place cs.toArray ((i, v) :: rest) = Instr.fill place (cs.take off ++ v.cells.toList ++ cs.drop (off + size)).toArray rest := by
 conv => lhs; unfold Instr.fill
 rw [hp]
 dsimp only
 rw [if_neg (by simp [hs]; omega)]
 congr 1
 have e := Rw.foldSetR v.cells.toList 0 off cs.toArray (by simp [hs]; omega)
 rw [← Array.toList_inj, ← Array.foldl_toList]
 simp only [Nat.add_zero, Array.length_toList, hs] at e
 simpa using e
theorem places_gr (w : World) : ∃ fs, Tryz.prog.underlying 61 = some (.struct fs) ∧ ((fs.mapM fun f => do pure (f.offset, ← sizeOf f.type)) : Sem (Array (Nat × Nat))).run Tryz.prog w = .ok #[(0, 1), (1, 1), (2, 1), (3, 1), (4, 32)] w :=
 ⟨_, Tryz.underlying61, by kernel_rfl⟩
theorem run_bldG (w : World) (s t h : Int) (r : List UInt8) (hok : r.length = 32) : (Instr.build 61 #[(0, .int .i64 s), (2, .int .i64 t), (3, .int .i64 h), (4, .agg (u8s r).toArray)]).run Tryz.prog w = .ok (.agg (Gr.row ⟨s, 0, t, h, r⟩).toArray) w := by
 obtain ⟨fs, hu, hp⟩ := places_gr w
 have hl : (u8s r).length = 32 := by rw [u8s_length]; exact hok
 have hz : zG.length = 36 := rfl
 have hf : Instr.fill ((#[(0, 1), (1, 1), (2, 1), (3, 1), (4, 32)] : Array (Nat × Nat))[·]?) zG.toArray [(0, .int .i64 s), (2, .int .i64 t), (3, .int .i64 h), (4, .agg (u8s r).toArray)] = some (Gr.row ⟨s, 0, t, h, r⟩).toArray := by
  rw [fill_step _ _ 0 0 1 _ _ rfl rfl (by omega), fill_step _ _ 2 2 1 _ _ rfl rfl (by simp [Value.cells, hz]), fill_step _ _ 3 3 1 _ _ rfl rfl (by simp [Value.cells, hz]), fill_step _ _ 4 4 32 _ _ rfl (by simpa [Value.cells] using hl) (by simp [Value.cells, hz])]
  unfold Instr.fill
  congr 1
  have e : zG = .int .i64 0 :: .int .i64 0 :: .int .i64 0 :: .int .i64 0 :: u8s z32 := rfl
  rw [e]
  simp [Value.cells, Gr.row, show (u8s z32).drop 32 = [] from rfl]
 unfold Instr.build
 simp only [Sem.run_bind, rwG.zero w, Result.andThen_ok, run_underlying hu, hp, Value.cells, hf]
 rfl
section
variable {ops : Array Oper} {rest : List Oper} {o : Oper} {a : Act} {w : World} {Q : Exit → Act → World → Prop}
theorem wpL_bldG (hgd : o.guard = none) (x0 x2 x3 x4 : Operand) (ho : o.op = .build 61 #[(0, x0), (2, x2), (3, x3), (4, x4)]) (s t h : Int) (r : List UInt8) (h0 : a.eval x0 = .int .i64 s) (h2 : a.eval x2 = .int .i64 t) (h3 : a.eval x3 = .int .i64 h) (h4 : a.eval x4 = .agg (u8s r).toArray) (hok : r.length = 32)
 (hh : wpList Tryz.prog ops Q rest (a.put o.dst (.agg (Gr.row ⟨s, 0, t, h, r⟩).toArray)) w) : wpList Tryz.prog ops Q (o :: rest) a w := by
 refine wpList_plain hgd fun K hK => ?_
 have := hK _ _ hh
 unfold Oper.wp execOp
 simp only [ho, List.map_toArray, List.map_cons, List.map_nil, h0, h2, h3, h4, Sem.run_bind, run_bldG w s t h r hok, Result.andThen_ok]
 exact this
end
theorem al_more {ss : List ByteArray} (h : okL ss) (c : UInt8) : al (mkS (encL ss) ++ ⟨#[c]⟩) = ([], 6) := by
 have e : mkS (encL ss) ++ ⟨#[c]⟩ = mkS (encL ss ++ [c]) := mkS_append _ [c]
 rw [e]
 have := gl_back ss h [c]
 unfold al
 rw [this]
 simp [mkS_size]
def S0 : ByteArray := ⟨#[115]⟩
theorem ok10 : kyOk S0 1 0 = true := by decide +kernel
theorem ok11 : kyOk S0 1 1 = true := by decide +kernel
theorem d0_ok : dOk (⟨1, ⟨#[33, 104, 97, 108, 108, 58, 48]⟩, 1, 5, 2, 1, ⟨#[]⟩⟩ : De) = true := by decide +kernel
theorem a0_ok : dOk (⟨2, ⟨#[33, 104, 97, 108, 108, 58, 48]⟩, 1, 5, 2, 1, ⟨#[]⟩⟩ : De) = true := by decide +kernel
theorem z_no : dOk zD = false := by decide +kernel
theorem lives24_any (w : World) (hI : IT w) (hT : HT w) (hK : KT w) : Calls Tryz.prog 11 #[] w fun e w' => e = .returned (.bool true) ∧ Below w.heap.size w w' := by
 have hkp := hK.pos
 have HI := hidp hI; have HT0 := hidp hT; have HK := hidp hK; clear hI hT hK
 have ck := hidp (show ∀ W, Calls Tryz.prog 15 #[.agg #[.string ⟨#[115]⟩, .int .i64 1, .int .i64 0]] W (fun e w' => ∃ b, e = .returned (.tuple #[.pointer (some ⟨b, 0, none⟩), .int .i64 0]) ∧ Arr w' b 118 [.string S0, .int .i64 1, .int .i64 0] ∧ W.heap.size ≤ b ∧ Below W.heap.size W w') from fun W => kmake_yes W S0 1 0 (by decide) ok10)
 obtain ⟨h1, h2, h3⟩ := sg_yes (S := S0) (H := 1) (N := 0) (dT (⟨1, ⟨#[33, 104, 97, 108, 108, 58, 48]⟩, 1, 5, 2, 1, ⟨#[]⟩⟩ : De)).data.toList ok10 (by decide)
 have hp := sig_parts (S := S0) (h := 1) (m := 0) (dT (⟨1, ⟨#[33, 104, 97, 108, 108, 58, 48]⟩, 1, 5, 2, 1, ⟨#[]⟩⟩ : De)).data.toList (by decide) (by decide)
 have hvs := fun root => vf_sign (S := S0) (h := 1) (m := 0) (dT (⟨1, ⟨#[33, 104, 97, 108, 108, 58, 48]⟩, 1, 5, 2, 1, ⟨#[]⟩⟩ : De)) root (by decide) (by decide)
 obtain ⟨G, hG⟩ : ∃ G, sgS S0 1 0 (dT (⟨1, ⟨#[33, 104, 97, 108, 108, 58, 48]⟩, 1, 5, 2, 1, ⟨#[]⟩⟩ : De)).data.toList = G := ⟨_, rfl⟩
 have hG2 : mkS (sigL S0.data.toList 1 0 (dT (⟨1, ⟨#[33, 104, 97, 108, 108, 58, 48]⟩, 1, 5, 2, 1, ⟨#[]⟩⟩ : De)).data.toList) = G := by rw [← hG, h2]; rfl
 rw [hG2] at hp hvs
 have hGs : G.size = 1121 := hp.2.1
 have hf0 : dOk (⟨1, ⟨#[33, 104, 97, 108, 108, 58, 48]⟩, 1, 5, 2, 1, G⟩ : De) = true := wSig_ok (g := G) d0_ok (by omega)
 have hdT : dT (⟨1, ⟨#[33, 104, 97, 108, 108, 58, 48]⟩, 1, 5, 2, 1, G⟩ : De) = dT (⟨1, ⟨#[33, 104, 97, 108, 108, 58, 48]⟩, 1, 5, 2, 1, ⟨#[]⟩⟩ : De) := dT_sig (g := G) d0_ok (by omega)
 have hsV : hsV S0 1 0 (⟨1, ⟨#[33, 104, 97, 108, 108, 58, 48]⟩, 1, 5, 2, 1, ⟨#[]⟩⟩ : De) = (⟨1, ⟨#[33, 104, 97, 108, 108, 58, 48]⟩, 1, 5, 2, 1, G⟩ : De) := by
  unfold hsV
  rw [if_pos ⟨d0_ok, h3⟩, ← hG]; rfl
 have hsE : hsE S0 1 0 (⟨1, ⟨#[33, 104, 97, 108, 108, 58, 48]⟩, 1, 5, 2, 1, ⟨#[]⟩⟩ : De) = 0 := by unfold hsE; rw [d0_ok, if_pos rfl]; exact h3
 have hsR : hsR S0 1 0 (⟨1, ⟨#[33, 104, 97, 108, 108, 58, 48]⟩, 1, 5, 2, 1, ⟨#[]⟩⟩ : De) = [.string S0, .int .i64 1, .int .i64 1] := by
  unfold hsR rgA
  rw [d0_ok, if_pos rfl, if_pos (by exact h3)]; exact h1
 have cs := hidp (show ∀ W br, Arr W br 118 [.string S0, .int .i64 1, .int .i64 0] → IT W → HT W → KT W → Calls Tryz.prog 16 #[.pointer (some ⟨br, 0, none⟩), .agg #[.int .u8 1, .string ⟨#[33, 104, 97, 108, 108, 58, 48]⟩, .int .i64 1, .int .i64 5, .int .i64 2, .int .i64 1, .string ⟨#[]⟩]] W (fun e w' => e = .returned (.tuple #[.agg #[.int .u8 1, .string ⟨#[33, 104, 97, 108, 108, 58, 48]⟩, .int .i64 1, .int .i64 5, .int .i64 2, .int .i64 1, .string G], .int .i64 0]) ∧ Rg br W w' ∧ Arr w' br 118 [.string S0, .int .i64 1, .int .i64 1]) from fun W br ha hi ht hk => by
  have := hsign_any W br S0 1 0 ok10 ha (⟨1, ⟨#[33, 104, 97, 108, 108, 58, 48]⟩, 1, 5, 2, 1, ⟨#[]⟩⟩ : De) ⟨by decide, by decide, by decide⟩ hi ht hk
  rw [hsV, hsE, hsR] at this; exact this)
 have hXB := dB_yes hf0
 obtain ⟨X, hX⟩ : ∃ X, dB (⟨1, ⟨#[33, 104, 97, 108, 108, 58, 48]⟩, 1, 5, 2, 1, G⟩ : De) = X := ⟨_, rfl⟩
 have hXok := dB_ok hf0
 have hXs : X.size ≤ 65536 := by
  rw [← hX, hXB, mkS_size]; unfold encL
  have e1 := encTs_len [dT (⟨1, ⟨#[33, 104, 97, 108, 108, 58, 48]⟩, 1, 5, 2, 1, G⟩ : De), G] 8192 (by omega) hXok.2
  have e2 := encN_len64 ([dT (⟨1, ⟨#[33, 104, 97, 108, 108, 58, 48]⟩, 1, 5, 2, 1, G⟩ : De), G] : List ByteArray).length (by simp)
  simp only [List.length_append, List.length_cons, List.length_nil] at e1 e2 ⊢; omega
 have hX2 : mkS (encL [dT (⟨1, ⟨#[33, 104, 97, 108, 108, 58, 48]⟩, 1, 5, 2, 1, G⟩ : De), G]) = X := by rw [← hX, hXB]
 have hmore := al_more hXok 33
 simp only at hmore
 rw [hX2] at hmore
 have hback := dP_back hf0
 rw [hX] at hback
 have hs1 : ((⟨#[33]⟩ : ByteArray)).size = 1 := rfl
 have hss : (X ++ (⟨#[33]⟩ : ByteArray)).size ≤ 65537 := by rw [ByteArray.size_append, hs1]; omega
 have GOK : ((⟨1, ⟨#[33, 104, 97, 108, 108, 58, 48]⟩, 1, 5, 2, 1, G⟩ : De)).ok := ⟨by show (1 : Nat) < 256; decide, by show (⟨#[33, 104, 97, 108, 108, 58, 48]⟩ : ByteArray).size ≤ _; decide, by show G.size ≤ _; omega⟩
 have AOK : ((⟨2, ⟨#[33, 104, 97, 108, 108, 58, 48]⟩, 1, 5, 2, 1, ⟨#[]⟩⟩ : De)).ok := ⟨by decide, by decide, by decide⟩
 have hav : anV (⟨1, ⟨#[33, 104, 97, 108, 108, 58, 48]⟩, 1, 5, 2, 1, G⟩ : De) = (⟨2, ⟨#[33, 104, 97, 108, 108, 58, 48]⟩, 1, 5, 2, 1, ⟨#[]⟩⟩ : De) ∧ anE (⟨1, ⟨#[33, 104, 97, 108, 108, 58, 48]⟩, 1, 5, 2, 1, G⟩ : De) = 0 := ⟨by unfold anV; rw [if_pos ⟨hf0, rfl⟩], by unfold anE; rw [if_pos hf0, if_pos rfl]⟩
 have hav2 : anV (⟨2, ⟨#[33, 104, 97, 108, 108, 58, 48]⟩, 1, 5, 2, 1, ⟨#[]⟩⟩ : De) = zD ∧ anE (⟨2, ⟨#[33, 104, 97, 108, 108, 58, 48]⟩, 1, 5, 2, 1, ⟨#[]⟩⟩ : De) = 11 := ⟨by unfold anV; rw [if_neg (fun h => absurd h.2 (by decide))], by unfold anE; rw [if_pos a0_ok, if_neg (by decide)]⟩
 have ca1 := hidp (show ∀ W, IT W → HT W → Calls Tryz.prog 26 #[.agg #[.int .u8 1, .string ⟨#[33, 104, 97, 108, 108, 58, 48]⟩, .int .i64 1, .int .i64 5, .int .i64 2, .int .i64 1, .string G]] W (fun e w' => e = .returned (.tuple #[.agg #[.int .u8 2, .string ⟨#[33, 104, 97, 108, 108, 58, 48]⟩, .int .i64 1, .int .i64 5, .int .i64 2, .int .i64 1, .string ⟨#[]⟩], .int .i64 0]) ∧ Below W.heap.size W w') from fun W hi ht => by
  have := answer_any W _ GOK hi ht
  rw [hav.1, hav.2] at this; exact this)
 have ca2 := hidp (show ∀ W, IT W → HT W → Calls Tryz.prog 26 #[.agg #[.int .u8 2, .string ⟨#[33, 104, 97, 108, 108, 58, 48]⟩, .int .i64 1, .int .i64 5, .int .i64 2, .int .i64 1, .string ⟨#[]⟩]] W (fun e w' => e = .returned (.tuple #[.agg zDr.toArray, .int .i64 11]) ∧ Below W.heap.size W w') from fun W hi ht => by
  have := answer_any W _ AOK hi ht
  rw [hav2.1, hav2.2] at this; exact this)
 have cb := hidp (show ∀ W, IT W → HT W → Calls Tryz.prog 22 #[.agg #[.int .u8 1, .string ⟨#[33, 104, 97, 108, 108, 58, 48]⟩, .int .i64 1, .int .i64 5, .int .i64 2, .int .i64 1, .string G]] W (fun e w' => e = .returned (.tuple #[.string X, .int .i64 0]) ∧ Below W.heap.size W w') from fun W hi ht => by
  have := bytes_any W _ GOK hi ht
  rw [hX, dE_yes hf0] at this; exact this)
 have cp1 := hidp (show ∀ W, IT W → HT W → Calls Tryz.prog 25 #[.string X] W (fun e w' => e = .returned (.tuple #[.agg #[.int .u8 1, .string ⟨#[33, 104, 97, 108, 108, 58, 48]⟩, .int .i64 1, .int .i64 5, .int .i64 2, .int .i64 1, .string G], .int .i64 0]) ∧ Below W.heap.size W w') from fun W hi ht => by
  have := parse_any W X (by omega) hi ht
  rw [show dpV X = (⟨1, ⟨#[33, 104, 97, 108, 108, 58, 48]⟩, 1, 5, 2, 1, G⟩ : De) from by unfold dpV; rw [hback]; rfl, show dpE X = 0 from by unfold dpE; rw [hback]; rfl] at this; exact this)
 have cp2 := hidp (show ∀ W, IT W → HT W → Calls Tryz.prog 25 #[.string (X ++ (⟨#[33]⟩ : ByteArray))] W (fun e w' => e = .returned (.tuple #[.agg zDr.toArray, .int .i64 6]) ∧ Below W.heap.size W w') from fun W hi ht => by
  have := parse_any W (X ++ (⟨#[33]⟩ : ByteArray)) (by omega) hi ht
  have hb := dP_bad (t := X ++ (⟨#[33]⟩ : ByteArray)) (by rw [hmore]; decide)
  rw [show dpV (X ++ (⟨#[33]⟩ : ByteArray)) = zD from by unfold dpV; rw [hb]; rfl, show dpE (X ++ (⟨#[33]⟩ : ByteArray)) = 6 from by unfold dpE; rw [hb]; rfl] at this; exact this)
 obtain ⟨R, hR⟩ : ∃ R, keyR S0 1 1 = R := ⟨_, rfl⟩
 have hRl := hidp (show R.length = 32 from by rw [← hR]; exact keyR_len _ _ _)
 have hRr : rootV (leafL S0.data.toList 1) = R := by rw [← hR]; unfold keyR; rw [ok11]; rfl
 have cr := hidp (show ∀ W br, Arr W br 118 [.string S0, .int .i64 1, .int .i64 1] → KT W → Calls Tryz.prog 28 #[.pointer (some ⟨br, 0, none⟩)] W (fun e w' => e = .returned (.agg (u8s R).toArray) ∧ Below W.heap.size W w') from fun W br ha hk => by
  have := krRoot_any W br S0 1 1 ha hk
  rw [hR] at this; exact this)
 have hvg : vG ⟨2, 0, 9, 1, R⟩ = true := rfl
 have hv1 : hvE [⟨2, 0, 9, 1, R⟩] (⟨1, ⟨#[33, 104, 97, 108, 108, 58, 48]⟩, 1, 5, 2, 1, G⟩ : De) = 0 := by
  unfold hvE bvE
  obtain ⟨q1, q2⟩ := fi_one hvg 2 5
  have q3 : fdG 2 5 ⟨2, 0, 9, 1, R⟩ = true := rfl
  rw [q3] at q1
  rw [hf0, if_pos rfl]
  show (if fiE [⟨2, 0, 9, 1, R⟩] 2 5 = 0 then vfE (fiV [⟨2, 0, 9, 1, R⟩] 2 5).r (fiV [⟨2, 0, 9, 1, R⟩] 2 5).h (dT (⟨1, ⟨#[33, 104, 97, 108, 108, 58, 48]⟩, 1, 5, 2, 1, G⟩ : De)) G else _) = 0
  rw [q1, if_pos (by rfl), q2 q3, hdT]
  have := hvs R
  rw [if_pos hRr] at this
  exact this
 have hv2 : hvE [⟨2, 0, 9, 1, R⟩] (⟨2, ⟨#[33, 104, 97, 108, 108, 58, 48]⟩, 1, 5, 2, 1, ⟨#[]⟩⟩ : De) = 3 := by
  unfold hvE bvE
  obtain ⟨q1, q2⟩ := fi_one hvg 1 5
  have q3 : fdG 1 5 ⟨2, 0, 9, 1, R⟩ = false := rfl
  rw [q3] at q1
  rw [a0_ok, if_pos rfl]
  show (if fiE [⟨2, 0, 9, 1, R⟩] 1 5 = 0 then _ else fiE [⟨2, 0, 9, 1, R⟩] 1 5) = 3
  rw [q1]; rfl
 have cv1 := hidp (show ∀ W v, GsAt W v [⟨2, 0, 9, 1, R⟩] → IT W → HT W → KT W → Calls Tryz.prog 13 #[v, .agg #[.int .u8 1, .string ⟨#[33, 104, 97, 108, 108, 58, 48]⟩, .int .i64 1, .int .i64 5, .int .i64 2, .int .i64 1, .string G]] W (fun e w' => e = .returned (.int .i64 0) ∧ Below W.heap.size W w') from fun W v hg hi ht hk => by
  have := hverify_any W v _ hg _ GOK hi ht hk
  rw [hv1] at this; exact this)
 have cv2 := hidp (show ∀ W v, GsAt W v [⟨2, 0, 9, 1, R⟩] → IT W → HT W → KT W → Calls Tryz.prog 13 #[v, .agg #[.int .u8 2, .string ⟨#[33, 104, 97, 108, 108, 58, 48]⟩, .int .i64 1, .int .i64 5, .int .i64 2, .int .i64 1, .string ⟨#[]⟩]] W (fun e w' => e = .returned (.int .i64 3) ∧ Below W.heap.size W w') from fun W v hg hi ht hk => by
  have := hverify_any W v _ hg _ AOK hi ht hk
  rw [hv2] at this; exact this)
 have cf1 := hidp (show ∀ W, IT W → HT W → Calls Tryz.prog 29 #[.agg #[.int .u8 1, .string ⟨#[33, 104, 97, 108, 108, 58, 48]⟩, .int .i64 1, .int .i64 5, .int .i64 2, .int .i64 1, .string G], .agg #[.int .u8 2, .string ⟨#[33, 104, 97, 108, 108, 58, 48]⟩, .int .i64 1, .int .i64 5, .int .i64 2, .int .i64 1, .string ⟨#[]⟩]] W (fun e w' => e = .returned (.bool true) ∧ Below W.heap.size W w') from fun W hi ht => by
  have := fits_any W _ _ GOK AOK hi ht
  rw [show fits (⟨1, ⟨#[33, 104, 97, 108, 108, 58, 48]⟩, 1, 5, 2, 1, G⟩ : De) (⟨2, ⟨#[33, 104, 97, 108, 108, 58, 48]⟩, 1, 5, 2, 1, ⟨#[]⟩⟩ : De) = true from by rw [fits_yes hav.2 a0_ok, hav.1]; exact eqD_self _] at this; exact this)
 have cf2 := hidp (show ∀ W, IT W → HT W → Calls Tryz.prog 29 #[.agg #[.int .u8 2, .string ⟨#[33, 104, 97, 108, 108, 58, 48]⟩, .int .i64 1, .int .i64 5, .int .i64 2, .int .i64 1, .string ⟨#[]⟩], .agg #[.int .u8 1, .string ⟨#[33, 104, 97, 108, 108, 58, 48]⟩, .int .i64 1, .int .i64 5, .int .i64 2, .int .i64 1, .string G]] W (fun e w' => e = .returned (.bool false) ∧ Below W.heap.size W w') from fun W hi ht => by
  have := fits_any W _ _ AOK GOK hi ht
  rw [fits_no (by rw [hav2.2]; decide)] at this; exact this)
 have cc := hidp (show ∀ W, IT W → HT W → Calls Tryz.prog 53 #[.agg zDr.toArray] W (fun e w' => e = .returned (.int .i64 2) ∧ Below W.heap.size W w') from fun W hi ht => by
  have := dcheck_any W zD ⟨by decide, by decide, by decide⟩ hi ht
  rw [dE_no z_no] at this; exact this)
 have q1 := fun W => eql_deal W 1 1 ⟨#[33, 104, 97, 108, 108, 58, 48]⟩ ⟨#[33, 104, 97, 108, 108, 58, 48]⟩ G G 1 1 5 5 2 2 1 1
 rw [eqD_self] at q1
 have H := hidp (Mm.M.nil w)
 clear h1 h2 h3 hp hvs hG hG2 hf0 hdT hsV hsE hsR hXB hX hXok hX2 hmore hback GOK AOK hav hav2 hR hRr hvg hv1 hv2 hGs
 go_enter Tryz.func11, Tryz.ntmps11
 have tk0 := hT
 go_upto_region 12 with (first | (clear tk0; (refine Rt.wpL_build rfl 26 _ rfl [.int .u8 1, .string ⟨#[33, 104, 97, 108, 108, 58, 48]⟩, .int .i64 1, .int .i64 5, .int .i64 2, .int .i64 1, .string ⟨#[]⟩] (by kernel_rfl) ?_); (try simp only [Act.put, aQ]); have tk1 := hT) | (clear tk1; (refine Mm.new rtD H (some 1) rfl rfl rfl ?_; clear H; intro b1 _ H nw; clear nw); (try simp only [Act.put, aQ]); have tk2 := hT) | (clear tk2; (refine Mm.put0 rtD H rfl (.tmp 1) (.tmp 17) [.int .u8 1, .string ⟨#[33, 104, 97, 108, 108, 58, 48]⟩, .int .i64 1, .int .i64 5, .int .i64 2, .int .i64 1, .string ⟨#[]⟩] rfl rfl rfl rfl (by simp [Value.oneCell']) rfl ?_; intro _ H2 st; clear st H; have H := H2; clear H2); (try simp only [Act.put, aQ]); have tk3 := hT) | (clear tk3; (refine Rt.wpL_build rfl 23 _ rfl [.string ⟨#[115]⟩, .int .i64 1, .int .i64 0] (by kernel_rfl) ?_); (try simp only [Act.put, aQ]); have tk4 := hT) | (clear tk4; (go_at_call 15; refine (ck.out _).mono ?_; rintro e _ ⟨br, rfl, hring, hge, hb⟩; replace H := hidp (H.out.add (m := 0) hb hge hring); clear hring hge hb ck); (try simp only [Act.put, aQ]); have tk5 := hT) | (clear tk5; (refine Mm.get1 rtD H rfl (.tmp 1) rfl rfl rfl ?_); (try simp only [Act.put, aQ]); have tk6 := hT) | (clear tk6; (go_at_call 16; refine (cs.out _ br H.out.at0 (HI.out.below H.out.below (Nat.le_refl _)) (HT0.out.below H.out.below (Nat.le_refl _)) (HK.out.below H.out.below hkp)).mono ?_; rintro e _ ⟨rfl, hr, ha⟩; replace H := (show Hid (Mm.M w.heap.size w _ ([⟨br, 118, [.string S0, .int .i64 1, .int .i64 1]⟩, ⟨b1, 26, [.int .u8 1, .string ⟨#[33, 104, 97, 108, 108, 58, 48]⟩, .int .i64 1, .int .i64 5, .int .i64 2, .int .i64 1, .string ⟨#[]⟩]⟩])) from hidp (rgAt H.out 0 rfl hr ha)); clear hr ha cs); (try simp only [Act.put, aQ]); have tk7 := hT) | (clear tk7; (refine Mm.new rtD H (some 4) rfl rfl rfl ?_; clear H; intro b4 _ H nw; clear nw); (try simp only [Act.put, aQ]); have tk8 := hT) | (clear tk8; (refine Mm.put0 rtD H rfl (.tmp 4) (.tmp 33) [.int .u8 1, .string ⟨#[33, 104, 97, 108, 108, 58, 48]⟩, .int .i64 1, .int .i64 5, .int .i64 2, .int .i64 1, .string G] rfl rfl rfl rfl (by simp [Value.oneCell']) rfl ?_; intro _ H2 st; clear st H; have H := H2; clear H2); (try simp only [Act.put, aQ]); have tk9 := hT) | (clear tk9; (refine Mm.get0 rtD H rfl (.tmp 4) rfl rfl rfl ?_); (try simp only [Act.put, aQ]); have tk10 := hT) | (clear tk10; (go_at_call 26; refine (ca1.out _ (HI.out.below H.out.below (Nat.le_refl _)) (HT0.out.below H.out.below (Nat.le_refl _))).mono ?_; rintro e _ ⟨rfl, hb⟩; replace H := hidp (H.out.call hb); clear ca1; clear hb); (try simp only [Act.put, aQ]); have tk11 := hT) | (clear tk11; (refine Mm.new rtD H (some 6) rfl rfl rfl ?_; clear H; intro b6 _ H nw; clear nw); (try simp only [Act.put, aQ]); have tk12 := hT) | (clear tk12; (refine Mm.put0 rtD H rfl (.tmp 6) (.tmp 38) [.int .u8 2, .string ⟨#[33, 104, 97, 108, 108, 58, 48]⟩, .int .i64 1, .int .i64 5, .int .i64 2, .int .i64 1, .string ⟨#[]⟩] rfl rfl rfl rfl (by simp [Value.oneCell']) rfl ?_; intro _ H2 st; clear st H; have H := H2; clear H2); (try simp only [Act.put, aQ]); have tk13 := hT) | (clear tk13; (refine Mm.get0 rtD H rfl (.tmp 6) rfl rfl rfl ?_); (try simp only [Act.put, aQ]); have tk14 := hT) | (clear tk14; (go_at_call 26; refine (ca2.out _ (HI.out.below H.out.below (Nat.le_refl _)) (HT0.out.below H.out.below (Nat.le_refl _))).mono ?_; rintro e _ ⟨rfl, hb⟩; replace H := hidp (H.out.call hb); clear ca2; clear hb); (try simp only [Act.put, aQ]); have tk15 := hT) | (clear tk15; (refine Mm.new rtD H (some 8) rfl rfl rfl ?_; clear H; intro b8 _ H nw; clear nw); (try simp only [Act.put, aQ]); have tk16 := hT) | (clear tk16; (refine Mm.put0 rtD H rfl (.tmp 8) (.tmp 43) zDr rfl rfl rfl rfl (by simp [zDr, Value.oneCell']) rfl ?_; intro _ H2 st; clear st H; have H := H2; clear H2); (try simp only [Act.put, aQ]); have tk17 := hT) | (clear tk17; (go_at_call 28; refine (cr.out _ br H.out.at3 (HK.out.below H.out.below hkp)).mono ?_; rintro e _ ⟨rfl, hb⟩; replace H := hidp (H.out.call hb); clear hb cr); (try simp only [Act.put, aQ]); have tk18 := hT) | (clear tk18; (refine wpL_bldG rfl _ _ _ (.tmp 46) rfl 2 9 1 R rfl rfl rfl rfl hRl.out ?_); (try simp only [Act.put, aQ]); have tk19 := hT) | (clear tk19; (refine Rw.wpL_bs1R rwG rfl (.tmp 47) rfl (Gr.row ⟨2, 0, 9, 1, R⟩) rfl (Gr.len hRl.out) ?_; intro bg _ nw; replace H := hidp (H.out.new nw); clear nw); (try simp only [Act.put, aQ]); have tk20 := hT) | (clear tk20; (refine Mm.get3 rtD H rfl (.tmp 4) rfl rfl rfl ?_); (try simp only [Act.put, aQ]); have tk21 := hT) | (clear tk21; (go_at_call 22; refine (cb.out _ (HI.out.below H.out.below (Nat.le_refl _)) (HT0.out.below H.out.below (Nat.le_refl _))).mono ?_; rintro e _ ⟨rfl, hb⟩; replace H := hidp (H.out.call hb); clear cb; clear hb); (try simp only [Act.put, aQ]); have tk22 := hT) | (clear tk22; (go_at_call 25; refine (cp1.out _ (HI.out.below H.out.below (Nat.le_refl _)) (HT0.out.below H.out.below (Nat.le_refl _))).mono ?_; rintro e _ ⟨rfl, hb⟩; replace H := hidp (H.out.call hb); clear cp1; clear hb); (try simp only [Act.put, aQ]); have tk23 := hT) | (clear tk23; (refine Mm.new rtD H (some 13) rfl rfl rfl ?_; clear H; intro b13 _ H nw; clear nw); (try simp only [Act.put, aQ]); have tk24 := hT) | (clear tk24; (refine Mm.put0 rtD H rfl (.tmp 13) (.tmp 57) [.int .u8 1, .string ⟨#[33, 104, 97, 108, 108, 58, 48]⟩, .int .i64 1, .int .i64 5, .int .i64 2, .int .i64 1, .string G] rfl rfl rfl rfl (by simp [Value.oneCell']) rfl ?_; intro _ H2 st; clear st H; have H := H2; clear H2); (try simp only [Act.put, aQ]); have tk25 := hT) | (clear tk25; (go_at_call 25; refine (cp2.out _ (HI.out.below H.out.below (Nat.le_refl _)) (HT0.out.below H.out.below (Nat.le_refl _))).mono ?_; rintro e _ ⟨rfl, hb⟩; replace H := hidp (H.out.call hb); clear cp2; clear hb); (try simp only [Act.put, aQ]); have tk26 := hT) | (clear tk26; (refine Mm.new rtD H (some 15) rfl rfl rfl ?_; clear H; intro b15 _ H nw; clear nw); (try simp only [Act.put, aQ]); have tk27 := hT) | (clear tk27; (refine Mm.put0 rtD H rfl (.tmp 15) (.tmp 63) zDr rfl rfl rfl rfl (by simp [zDr, Value.oneCell']) rfl ?_; intro _ H2 st; clear st H; have H := H2; clear H2); (try simp only [Act.put, aQ]); have tk28 := hT))
 try clear tk28
 refine wp_region_list ?_
 simp only [List.append_eq, List.cons_append, List.nil_append]
 have tk0 := hT
 go_wp2_with (first | (clear tk0; (refine Mm.ld4 naDK H rfl (.tmp 72) 0 (.int .u8 2) rfl rfl rfl ?_); (try simp only [Act.put, aQ]); have tk1 := hT) | (clear tk1; (refine Mm.ld4 naS H rfl (.tmp 77) 6 _ rfl rfl rfl ?_); (try simp only [Act.put, aQ]); have tk2 := hT) | (clear tk2; (refine Mm.ld4 naI H rfl (.tmp 82) 5 _ rfl rfl rfl ?_); (try simp only [Act.put, aQ]); have tk3 := hT) | (clear tk3; (refine Mm.get1 rtD H rfl (.tmp 13) rfl rfl rfl ?_); (try simp only [Act.put, aQ]); have tk4 := hT) | (clear tk4; (refine Mm.get5 rtD H rfl (.tmp 4) rfl rfl rfl ?_); (try simp only [Act.put, aQ]); have tk5 := hT) | (clear tk5; (refine Mm.get5 rtD H rfl (.tmp 4) rfl rfl rfl ?_); (try simp only [Act.put, aQ]); have tk6 := hT) | (clear tk6; (go_at_call 13; refine (cv1.out _ _ (gs_one hRl.out H.out.at2) (HI.out.below H.out.below (Nat.le_refl _)) (HT0.out.below H.out.below (Nat.le_refl _)) (HK.out.below H.out.below hkp)).mono ?_; rintro e _ ⟨rfl, hb⟩; replace H := hidp (H.out.call hb); clear cv1; clear hb); (try simp only [Act.put, aQ]); have tk7 := hT) | (clear tk7; (refine Mm.get4 rtD H rfl (.tmp 6) rfl rfl rfl ?_); (try simp only [Act.put, aQ]); have tk8 := hT) | (clear tk8; (go_at_call 13; refine (cv2.out _ _ (gs_one hRl.out H.out.at2) (HI.out.below H.out.below (Nat.le_refl _)) (HT0.out.below H.out.below (Nat.le_refl _)) (HK.out.below H.out.below hkp)).mono ?_; rintro e _ ⟨rfl, hb⟩; replace H := hidp (H.out.call hb); clear cv2; clear hb); (try simp only [Act.put, aQ]); have tk9 := hT) | (clear tk9; (refine Mm.get5 rtD H rfl (.tmp 4) rfl rfl rfl ?_); (try simp only [Act.put, aQ]); have tk10 := hT) | (clear tk10; (refine Mm.get4 rtD H rfl (.tmp 6) rfl rfl rfl ?_); (try simp only [Act.put, aQ]); have tk11 := hT) | (clear tk11; (go_at_call 29; refine (cf1.out _ (HI.out.below H.out.below (Nat.le_refl _)) (HT0.out.below H.out.below (Nat.le_refl _))).mono ?_; rintro e _ ⟨rfl, hb⟩; replace H := hidp (H.out.call hb); clear cf1; clear hb); (try simp only [Act.put, aQ]); have tk12 := hT) | (clear tk12; (refine Mm.get4 rtD H rfl (.tmp 6) rfl rfl rfl ?_); (try simp only [Act.put, aQ]); have tk13 := hT) | (clear tk13; (refine Mm.get5 rtD H rfl (.tmp 4) rfl rfl rfl ?_); (try simp only [Act.put, aQ]); have tk14 := hT) | (clear tk14; (go_at_call 29; refine (cf2.out _ (HI.out.below H.out.below (Nat.le_refl _)) (HT0.out.below H.out.below (Nat.le_refl _))).mono ?_; rintro e _ ⟨rfl, hb⟩; replace H := hidp (H.out.call hb); clear cf2; clear hb); (try simp only [Act.put, aQ]); have tk15 := hT) | (clear tk15; (refine Rt.wpL_build rfl 26 _ rfl zDr (by kernel_rfl) ?_); (try simp only [Act.put, aQ]); have tk16 := hT) | (clear tk16; (go_at_call 53; refine (cc.out _ (HI.out.below H.out.below (Nat.le_refl _)) (HT0.out.below H.out.below (Nat.le_refl _))).mono ?_; rintro e _ ⟨rfl, hb⟩; replace H := hidp (H.out.call hb); clear cc; clear hb); (try simp only [Act.put, aQ]); have tk17 := hT))
 try clear tk17
 go_ret
 exact ⟨rfl, H.out.below⟩
end Go.Proofs.YtokakgjcegmabaaGreatDoor.Ho
