import Derived.Test.YtbgooppmhgaicaaGreatDoorDW
import Derived.Test.YtbgooppmhgaicaaGreatDoorDR
import Derived.Test.YtbgooppmhgaicaaGreatDoorDS4
import Derived.Test.YtbgooppmhgaicaaGreatDoorDN
import Derived.Deep.Cut
set_option linter.unusedVariables false
set_option linter.unusedSimpArgs false
set_option maxHeartbeats 64000000
namespace Go.Proofs.YtbgooppmhgaicaaGreatDoor.En
set_option maxRecDepth 100000
open Go.RowKit
open List (getElem_toArray getElem_cons_zero getElem_cons_succ setIfInBounds_toArray set_cons_zero set_cons_succ)
open Ho (Rg reb rgAt ringR)
theorem En.sig36' {x : En} (h : x.p.length = 32) {s : ByteArray} : x.row.set 36 (.string s) = (wSigE x s).row := En.set36 h s
def esE (S : ByteArray) (h m : Nat) (x : En) : Int := if eOk x = true then sgE S h m else 2
def esV (S : ByteArray) (h m : Nat) (x : En) : En := if eOk x = true ∧ sgE S h m = 0 then wSigE x (sgS S h m (eT x).data.toList) else x
def esR (S : ByteArray) (h m : Nat) (x : En) : List Value := if eOk x = true then rgA S h m else ringR S h m
def evfE (gs : List Gr) (n : Int) (x : En) : Int := if eOk x = true then bvE gs n x.i (eT x) x.g else 2
theorem esign_any (w : World) (b : Nat) (S : ByteArray) (h m : Nat) (hok : kyOk S h m = true) (hA : Arr w b 75 (ringR S h m)) (x : En) (hx : x.ok) (hI : IT w) (hK : KT w) :
 Calls Tryz.prog 13 #[.pointer (some ⟨b, 0, none⟩), .agg x.row.toArray] w fun e w' => e = .returned (.tuple #[.agg (esV S h m x).row.toArray, .int .i64 (esE S h m x)]) ∧ Rg b w w' ∧ Arr w' b 75 (esR S h m x) := by
 have hbN := hA.lt; have hkp := hK.pos
 have HA := hidp hA; have HP := hidp hx.p
 have HI := hidp hI; have HK := hidp hK; clear hI hK hA
 have hts := eT_size x hx.p
 have cs := hidp (fun W (ha : Arr W b 75 (ringR S h m)) (hk : KT W) => krSign_any W b S h m hok (eT x) (by omega) ha hk)
 have ct := hidp (fun W (h : IT W) => etext_any W x hx h)
 have co := hidp (fun W => eclone_any W x hx)
 have H := hidp (Mm.M.nil w)
 clear hx hok
 obtain ⟨T, hT⟩ : ∃ T, eT x = T := ⟨_, rfl⟩
 cases hok : eOk x with
 | false =>
   have HV := hidp (show esV S h m x = x from by unfold esV; rw [hok]; rfl)
   have HE := hidp (show esE S h m x = 2 from by unfold esE; rw [hok]; rfl)
   have HRR := hidp (show esR S h m x = ringR S h m from by unfold esR; rw [hok]; rfl)
   rw [eE_no hok, hT] at ct
   clear hok hT cs hts
   go_enter Tryz.func13, Tryz.ntmps13
   have tk0 := hidp trivial
   go_wp2_with (first | (clear tk0; (refine Mm.box 27 H rfl (.tmp 1) rfl x.row rfl ?_; clear H; intro b3 _ H nw; have hb := nw.below; clear hb nw); (try simp only [Act.put, aQ]); have tk1 := hidp trivial) | (clear tk1; (refine Mm.new rtE H (some 4) rfl rfl rfl ?_; clear H; intro b4 _ H nw; have hb := nw.below; clear hb nw); (try simp only [Act.put, aQ]); have tk2 := hidp trivial) | (clear tk2; (refine Mm.get1 rtE H rfl (.tmp 3) rfl rfl (En.len HP.out) ?_); (try simp only [Act.put, aQ]); have tk3 := hidp trivial) | (clear tk3; (go_at_call 49; refine (co.out _).mono ?_; rintro e _ ⟨rfl, hb⟩; replace H := hidp (H.out.call hb); clear co; clear hb); (try simp only [Act.put, aQ]); have tk4 := hidp trivial) | (clear tk4; (refine Mm.put1 rtE H rfl (.tmp 3) (.tmp 10) x.row rfl rfl rfl (En.len HP.out) (En.one x) (En.len HP.out) ?_; intro _ H2 st; clear st H; have H := H2; clear H2); (try simp only [Act.put, aQ]); have tk5 := hidp trivial) | (clear tk5; (refine Mm.get1 rtE H rfl (.tmp 3) rfl rfl (En.len HP.out) ?_); (try simp only [Act.put, aQ]); have tk6 := hidp trivial) | (clear tk6; (go_at_call 37; refine (ct.out _ (HI.out.below H.out.below (Nat.le_refl _))).mono ?_; rintro e _ ⟨rfl, hb⟩; replace H := hidp (H.out.call hb); clear ct; clear hb); (try simp only [Act.put, aQ]); have tk7 := hidp trivial) | (clear tk7; (refine Mm.get1 rtE H rfl (.tmp 3) rfl rfl (En.len HP.out) ?_); (try simp only [Act.put, aQ]); have tk8 := hidp trivial) | (clear tk8; (refine Mm.put0 rtE H rfl (.tmp 4) (.tmp 18) x.row rfl rfl rfl (En.len HP.out) (En.one x) (En.len (rfl : zEn.p.length = 32)) ?_; intro _ H2 st; clear st H; have H := H2; clear H2); (try simp only [Act.put, aQ]); have tk9 := hidp trivial))
   try clear tk9
   refine bodyPost_ret (Mm.ret_rowv rtE Tryz.results13 _ b4 _ _ rfl rfl H.out.at0 (En.len (x := x) HP.out)) rfl ⟨by rw [HV.out, HE.out]; first | done | rfl, Rg.of_below H.out.below hbN, by rw [HRR.out]; exact HA.out.below H.out.below hbN⟩
 | true =>
   have HRR := hidp (show esR S h m x = rgA S h m from by unfold esR; rw [hok]; rfl)
   rw [eE_yes hok, hT] at ct
   rw [hT] at cs
   by_cases h0 : sgE S h m = 0
   · obtain ⟨G, hG⟩ : ∃ G, sgS S h m T.data.toList = G := ⟨_, rfl⟩
     rw [h0, hG] at cs
     have HV := hidp (show esV S h m x = wSigE x G from by unfold esV; rw [if_pos ⟨hok, h0⟩, hT, hG])
     have HE := hidp (show esE S h m x = 0 from by unfold esE; rw [hok, if_pos rfl, h0])
     clear hok hT h0 hG hts
     go_enter Tryz.func13, Tryz.ntmps13
     have tk0 := hidp trivial
     go_wp2_with (first | (clear tk0; (refine Mm.box 27 H rfl (.tmp 1) rfl x.row rfl ?_; clear H; intro b3 _ H nw; have hb := nw.below; clear hb nw); (try simp only [Act.put, aQ]); have tk1 := hidp trivial) | (clear tk1; (refine Mm.new rtE H (some 4) rfl rfl rfl ?_; clear H; intro b4 _ H nw; have hb := nw.below; clear hb nw); (try simp only [Act.put, aQ]); have tk2 := hidp trivial) | (clear tk2; (refine Mm.get1 rtE H rfl (.tmp 3) rfl rfl (En.len HP.out) ?_); (try simp only [Act.put, aQ]); have tk3 := hidp trivial) | (clear tk3; (go_at_call 49; refine (co.out _).mono ?_; rintro e _ ⟨rfl, hb⟩; replace H := hidp (H.out.call hb); clear co; clear hb); (try simp only [Act.put, aQ]); have tk4 := hidp trivial) | (clear tk4; (refine Mm.put1 rtE H rfl (.tmp 3) (.tmp 10) x.row rfl rfl rfl (En.len HP.out) (En.one x) (En.len HP.out) ?_; intro _ H2 st; clear st H; have H := H2; clear H2); (try simp only [Act.put, aQ]); have tk5 := hidp trivial) | (clear tk5; (refine Mm.get1 rtE H rfl (.tmp 3) rfl rfl (En.len HP.out) ?_); (try simp only [Act.put, aQ]); have tk6 := hidp trivial) | (clear tk6; (go_at_call 37; refine (ct.out _ (HI.out.below H.out.below (Nat.le_refl _))).mono ?_; rintro e _ ⟨rfl, hb⟩; replace H := hidp (H.out.call hb); clear ct; clear hb); (try simp only [Act.put, aQ]); have tk7 := hidp trivial) | (clear tk7; (go_at_call 50; refine (cs.out _ (HA.out.below H.out.below hbN) (HK.out.below H.out.below hkp)).mono ?_; rintro e w2 ⟨rfl, W2, hb2, st2, ha2⟩; have HR := hidp ((Rg.of_below H.out.below hbN).trans (Rg.of_stp hb2 st2 (Nat.lt_of_lt_of_le hbN H.out.le))); replace H := hidp (reb H.out (Rg.of_stp hb2 st2 (Nat.lt_of_lt_of_le hbN H.out.le)) hbN); have HAR := hidp ha2; clear hb2 st2 ha2 cs); (try simp only [Act.put, aQ]); have tk8 := hidp trivial) | (clear tk8; (refine Mm.putF1 H rfl 9 (.tmp 31) (.tmp 30) 36 (.string G) rfl rfl rfl (by kernel_rfl) rfl (by rw [En.len HP.out]; decide) ?_; intro _ H2 st; clear st H; rw [En.sig36' HP.out] at H2; have H := H2; clear H2); (try simp only [Act.put, aQ]); have tk9 := hidp trivial) | (clear tk9; (refine Mm.get1 rtE H rfl (.tmp 3) rfl rfl (En.len HP.out) ?_); (try simp only [Act.put, aQ]); have tk10 := hidp trivial) | (clear tk10; (refine Mm.put0 rtE H rfl (.tmp 4) (.tmp 32) (wSigE x G).row rfl rfl rfl (En.len HP.out) (En.one (wSigE x G)) (En.len (rfl : zEn.p.length = 32)) ?_; intro _ H2 st; clear st H; have H := H2; clear H2); (try simp only [Act.put, aQ]); have tk11 := hidp trivial))
     try clear tk11
     refine bodyPost_ret (Mm.ret_rowv rtE Tryz.results13 _ b4 _ _ rfl rfl H.out.at0 (En.len (x := wSigE x G) HP.out)) rfl ⟨by rw [HV.out, HE.out]; first | done | rfl, HR.out.fin H.out.below hbN, by rw [HRR.out]; exact HAR.out.below H.out.below hbN⟩
   · obtain ⟨G, hG⟩ : ∃ G, sgS S h m T.data.toList = G := ⟨_, rfl⟩
     rw [hG] at cs
     have HV := hidp (show esV S h m x = x from by unfold esV; rw [if_neg (fun g => h0 g.2)])
     have HE := hidp (show esE S h m x = sgE S h m from by unfold esE; rw [hok, if_pos rfl])
     obtain ⟨E, hE⟩ : ∃ E, sgE S h m = E := ⟨_, rfl⟩
     rw [hE] at cs HE h0
     have e1 : (E != 0) = true := by simpa using h0
     clear hok hT h0 hG hts hE
     go_enter Tryz.func13, Tryz.ntmps13
     have tk0 := hidp trivial
     go_wp2_with (first | (clear tk0; (refine Mm.box 27 H rfl (.tmp 1) rfl x.row rfl ?_; clear H; intro b3 _ H nw; have hb := nw.below; clear hb nw); (try simp only [Act.put, aQ]); have tk1 := hidp trivial) | (clear tk1; (refine Mm.new rtE H (some 4) rfl rfl rfl ?_; clear H; intro b4 _ H nw; have hb := nw.below; clear hb nw); (try simp only [Act.put, aQ]); have tk2 := hidp trivial) | (clear tk2; (refine Mm.get1 rtE H rfl (.tmp 3) rfl rfl (En.len HP.out) ?_); (try simp only [Act.put, aQ]); have tk3 := hidp trivial) | (clear tk3; (go_at_call 49; refine (co.out _).mono ?_; rintro e _ ⟨rfl, hb⟩; replace H := hidp (H.out.call hb); clear co; clear hb); (try simp only [Act.put, aQ]); have tk4 := hidp trivial) | (clear tk4; (refine Mm.put1 rtE H rfl (.tmp 3) (.tmp 10) x.row rfl rfl rfl (En.len HP.out) (En.one x) (En.len HP.out) ?_; intro _ H2 st; clear st H; have H := H2; clear H2); (try simp only [Act.put, aQ]); have tk5 := hidp trivial) | (clear tk5; (refine Mm.get1 rtE H rfl (.tmp 3) rfl rfl (En.len HP.out) ?_); (try simp only [Act.put, aQ]); have tk6 := hidp trivial) | (clear tk6; (go_at_call 37; refine (ct.out _ (HI.out.below H.out.below (Nat.le_refl _))).mono ?_; rintro e _ ⟨rfl, hb⟩; replace H := hidp (H.out.call hb); clear ct; clear hb); (try simp only [Act.put, aQ]); have tk7 := hidp trivial) | (clear tk7; (go_at_call 50; refine (cs.out _ (HA.out.below H.out.below hbN) (HK.out.below H.out.below hkp)).mono ?_; rintro e w2 ⟨rfl, W2, hb2, st2, ha2⟩; have HR := hidp ((Rg.of_below H.out.below hbN).trans (Rg.of_stp hb2 st2 (Nat.lt_of_lt_of_le hbN H.out.le))); replace H := hidp (reb H.out (Rg.of_stp hb2 st2 (Nat.lt_of_lt_of_le hbN H.out.le)) hbN); have HAR := hidp ha2; clear hb2 st2 ha2 cs); (try simp only [Act.put, aQ]); have tk8 := hidp trivial) | (clear tk8; (refine Mm.get1 rtE H rfl (.tmp 3) rfl rfl (En.len HP.out) ?_); (try simp only [Act.put, aQ]); have tk9 := hidp trivial) | (clear tk9; (refine Mm.put0 rtE H rfl (.tmp 4) (.tmp 28) x.row rfl rfl rfl (En.len HP.out) (En.one x) (En.len (rfl : zEn.p.length = 32)) ?_; intro _ H2 st; clear st H; have H := H2; clear H2); (try simp only [Act.put, aQ]); have tk10 := hidp trivial))
     try clear tk10
     refine bodyPost_ret (Mm.ret_rowv rtE Tryz.results13 _ b4 _ _ rfl rfl H.out.at0 (En.len (x := x) HP.out)) rfl ⟨by rw [HV.out, HE.out]; first | done | rfl, HR.out.fin H.out.below hbN, by rw [HRR.out]; exact HAR.out.below H.out.below hbN⟩
theorem everify_any (w : World) (v : Value) (gs : List Gr) (hv : GsAt w v gs) (n : Int) (x : En) (hx : x.ok) (hI : IT w) (hK : KT w) :
 Calls Tryz.prog 10 #[v, .int .i64 n, .agg x.row.toArray] w fun e w' => e = .returned (.int .i64 (evfE gs n x)) ∧ Below w.heap.size w w' := by
 have hkp := hK.pos
 have HVV := hidp hv; have HP := hidp hx.p
 have HI := hidp hI; have HK := hidp hK; clear hI hK hv
 have hts := eT_size x hx.p
 have cv := hidp (fun W (hg : GsAt W v gs) (hk : KT W) => bverify_any W v gs hg n x.i (eT x) x.g (by omega) (by have := hx.g; omega) hk)
 have ct := hidp (fun W (h : IT W) => etext_any W x hx h)
 have H := hidp (Mm.M.nil w)
 clear hx
 have hVE : evfE gs n x = if eOk x = true then bvE gs n x.i (eT x) x.g else 2 := rfl
 obtain ⟨T, hT⟩ : ∃ T, eT x = T := ⟨_, rfl⟩
 rw [hT] at ct cv hVE
 cases hok : eOk x with
 | false =>
   rw [hVE, hok]
   rw [eE_no hok] at ct
   show Calls _ _ _ _ fun e w' => e = .returned (.int .i64 2) ∧ _
   clear hok hT hVE hts cv
   go_enter Tryz.func10, Tryz.ntmps10
   have tk0 := hidp trivial
   go_wp2_with (first | (clear tk0; (refine Mm.box 27 H rfl (.tmp 2) rfl x.row rfl ?_; clear H; intro b5 _ H nw; have hb := nw.below; clear hb nw); (try simp only [Act.put, aQ]); have tk1 := hidp trivial) | (clear tk1; (refine Mm.get0 rtE H rfl (.tmp 5) rfl rfl (En.len HP.out) ?_); (try simp only [Act.put, aQ]); have tk2 := hidp trivial) | (clear tk2; (go_at_call 37; refine (ct.out _ (HI.out.below H.out.below (Nat.le_refl _))).mono ?_; rintro e _ ⟨rfl, hb⟩; replace H := hidp (H.out.call hb); clear ct; clear hb); (try simp only [Act.put, aQ]); have tk3 := hidp trivial))
   try clear tk3
   go_ret
   exact ⟨rfl, H.out.below⟩
 | true =>
   rw [hVE, hok, if_pos rfl]
   rw [eE_yes hok] at ct
   obtain ⟨VE, hVE2⟩ : ∃ VE, bvE gs n x.i T x.g = VE := ⟨_, rfl⟩
   rw [hVE2] at cv ⊢
   clear hok hT hVE hVE2 hts
   go_enter Tryz.func10, Tryz.ntmps10
   have tk0 := hidp trivial
   go_wp2_with (first | (clear tk0; (refine Mm.box 27 H rfl (.tmp 2) rfl x.row rfl ?_; clear H; intro b5 _ H nw; have hb := nw.below; clear hb nw); (try simp only [Act.put, aQ]); have tk1 := hidp trivial) | (clear tk1; (refine Mm.get0 rtE H rfl (.tmp 5) rfl rfl (En.len HP.out) ?_); (try simp only [Act.put, aQ]); have tk2 := hidp trivial) | (clear tk2; (go_at_call 37; refine (ct.out _ (HI.out.below H.out.below (Nat.le_refl _))).mono ?_; rintro e _ ⟨rfl, hb⟩; replace H := hidp (H.out.call hb); clear ct; clear hb); (try simp only [Act.put, aQ]); have tk3 := hidp trivial) | (clear tk3; (refine Mm.ld0 naI H rfl (.tmp 19) 2 (.int .i64 x.i) rfl rfl (En.get2 _) ?_); (try simp only [Act.put, aQ]); have tk4 := hidp trivial) | (clear tk4; (refine Mm.ld0 naS H rfl (.tmp 22) 36 (.string x.g) rfl rfl (En.get36 HP.out) ?_); (try simp only [Act.put, aQ]); have tk5 := hidp trivial) | (clear tk5; (go_at_call 45; refine (cv.out _ (HVV.out.to H.out.below) (HK.out.below H.out.below hkp)).mono ?_; rintro e _ ⟨rfl, hb⟩; replace H := hidp (H.out.call hb); clear cv; clear hb); (try simp only [Act.put, aQ]); have tk6 := hidp trivial))
   try clear tk6
   go_ret
   exact ⟨rfl, H.out.below⟩
end Go.Proofs.YtbgooppmhgaicaaGreatDoor.En
namespace Go.Proofs.YtbgooppmhgaicaaGreatDoor.En
set_option maxRecDepth 100000
open Go.RowKit
open List (getElem_toArray getElem_cons_zero getElem_cons_succ setIfInBounds_toArray set_cons_zero set_cons_succ)
open Ho (fi_one gs_one rwG wpL_bldG al_more S0 ok10 Rg rgAt)
theorem guard_en : Tryz.prog.eqGuardType Tryz.prog.depth 27 = false := by kernel_rfl
theorem eqin_en (W : World) (x : En) (hp : x.p.length = 32) : (Op.equalIn 10000 27 (.agg x.row.toArray) (.agg x.row.toArray)).run Tryz.prog W = .ok true W := by
 have ht : Tryz.prog.underlying 27 = some (.struct (Tryz.prog.fieldsOf 27)) := by kernel_rfl
 have hst : Tryz.prog.stoodInHeld 27 = false := by kernel_rfl
 have hu := Tryz.underlying27
 have hus := Tryz.underlying9
 have hui := Tryz.underlying3
 have hl := En.len hp
 have r0 : x.row[0]'(by omega) = .string x.r := rfl
 have r1 : x.row[1]'(by omega) = .int .i64 x.e := rfl
 have r2 : x.row[2]'(by omega) = .int .i64 x.i := rfl
 have r35 : x.row[35]'(by omega) = .string x.v := by have := En.get35 hp; rw [List.getElem?_eq_getElem (by omega)] at this; simpa using this
 have r36 : x.row[36]'(by omega) = .string x.g := by have := En.get36 hp; rw [List.getElem?_eq_getElem (by omega)] at this; simpa using this
 have r4 : List.take 32 (List.drop 3 x.row) = u8s x.p := by
  rw [En.mid, List.take_append_of_le_length (by rw [u8s_length, hp]; exact Nat.le_refl _), List.take_of_length_le (by rw [u8s_length, hp]; exact Nat.le_refl _)]
 have qh := fun W => eqin_hd 9997 W x.p x.p hp hp
 simp only [decide_true] at qh
 rw [run_equalIn_agg W 9999 _ _ _ ht hst]
 unfold Program.fieldsOf
 rw [hu]
 go_simp
theorem rtK : Rt.RT Tryz.prog 23 3 [.string ⟨#[]⟩, .int .i64 0, .int .i64 0] := ⟨rfl, .inl ⟨_, Tryz.underlying23⟩, by kernel_rfl⟩
def e5 : En := (⟨⟨#[33, 104, 97, 108, 108, 58, 48]⟩, 1, 5, z32e, ⟨#[120]⟩, ⟨#[]⟩⟩ : En)
def f5 (G : ByteArray) : En := (⟨⟨#[33, 104, 97, 108, 108, 58, 48]⟩, 1, 5, z32e, ⟨#[120]⟩, G⟩ : En)
def f6 (G : ByteArray) : En := (⟨⟨#[33, 104, 97, 108, 108, 58, 48]⟩, 1, 6, z32e, ⟨#[120]⟩, G⟩ : En)
theorem e5_ok : eOk e5 = true := by decide +kernel
theorem z_no : eOk zEn = false := by decide +kernel
theorem f6_ok {G : ByteArray} (h : G.size ≤ 8192) : eOk (f6 G) = true := wSigE_ok (x := (⟨⟨#[33, 104, 97, 108, 108, 58, 48]⟩, 1, 6, z32e, ⟨#[120]⟩, ⟨#[]⟩⟩ : En)) (by decide +kernel) h
theorem set56 {G : ByteArray} : (f5 G).row.set 2 (.int .i64 6) = (f6 G).row := rfl
theorem lives19_any (w : World) (hI : IT w) (hK : KT w) : Calls Tryz.prog 8 #[] w fun e w' => e = .returned (.bool true) ∧ Below w.heap.size w w' := by
 have hkp := hK.pos
 have HI := hidp hI; have HK := hidp hK; clear hI hK
 have ck := hidp (show ∀ W, Calls Tryz.prog 12 #[.agg #[.string ⟨#[115]⟩, .int .i64 1, .int .i64 0]] W (fun e w' => ∃ b, e = .returned (.tuple #[.pointer (some ⟨b, 0, none⟩), .int .i64 0]) ∧ Arr w' b 75 [.string S0, .int .i64 1, .int .i64 0] ∧ W.heap.size ≤ b ∧ Below W.heap.size W w') from fun W => kmake_yes W S0 1 0 (by decide) ok10)
 obtain ⟨h1, h2, h3⟩ := sg_yes (S := S0) (H := 1) (N := 0) (eT e5).data.toList ok10 (by decide)
 have hp := sig_parts (S := S0) (h := 1) (m := 0) (eT e5).data.toList (by decide) (by decide)
 have hvs := fun root => vf_sign (S := S0) (h := 1) (m := 0) (eT e5) root (by decide) (by decide)
 have hv6 := vf_six
 obtain ⟨G, hG⟩ : ∃ G, sgS S0 1 0 (eT e5).data.toList = G := ⟨_, rfl⟩
 have hG2 : mkS (sigL S0.data.toList 1 0 (eT e5).data.toList) = G := by rw [← hG, h2]; rfl
 rw [show mkS (sigL [115] 1 0 (eT (⟨⟨#[33, 104, 97, 108, 108, 58, 48]⟩, 1, 5, z32e, ⟨#[120]⟩, ⟨#[]⟩⟩ : En)).data.toList) = G from hG2] at hv6
 rw [hG2] at hp hvs
 have hGs : G.size = 1121 := hp.2.1
 have hf0 : eOk (f5 G) = true := wSigE_ok (x := e5) (g := G) e5_ok (by omega)
 have hf6 : eOk (f6 G) = true := f6_ok (by omega)
 have hT5 : eT (f5 G) = (eT e5) := eT_sig (x := e5) (g := G) e5_ok (by omega)
 have hT6 : eT (f6 G) = eT (⟨⟨#[33, 104, 97, 108, 108, 58, 48]⟩, 1, 6, z32e, ⟨#[120]⟩, ⟨#[]⟩⟩ : En) := eT_sig (x := (⟨⟨#[33, 104, 97, 108, 108, 58, 48]⟩, 1, 6, z32e, ⟨#[120]⟩, ⟨#[]⟩⟩ : En)) (g := G) (by decide +kernel) (by omega)
 have hsV : esV S0 1 0 e5 = f5 G := by
  unfold esV
  rw [if_pos ⟨e5_ok, h3⟩]
  show wSigE e5 (sgS S0 1 0 (eT e5).data.toList) = f5 G
  rw [hG]; rfl
 have hsE : esE S0 1 0 e5 = 0 := by unfold esE; rw [e5_ok, if_pos rfl]; exact h3
 have hsR : esR S0 1 0 e5 = [.string S0, .int .i64 1, .int .i64 1] := by
  unfold esR rgA
  rw [e5_ok, if_pos rfl, if_pos (by exact h3)]; exact h1
 have E5 : e5.ok := ⟨by show (⟨#[33, 104, 97, 108, 108, 58, 48]⟩ : ByteArray).size ≤ _; decide, rfl, by show (⟨#[120]⟩ : ByteArray).size ≤ _; decide, by show (⟨#[]⟩ : ByteArray).size ≤ _; decide⟩
 have F5 : (f5 G).ok := ⟨E5.r, rfl, E5.v, by show G.size ≤ _; omega⟩
 have F6 : (f6 G).ok := ⟨E5.r, rfl, E5.v, by show G.size ≤ _; omega⟩
 have cs := hidp (show ∀ W br, Arr W br 75 [.string S0, .int .i64 1, .int .i64 0] → IT W → KT W → Calls Tryz.prog 13 #[.pointer (some ⟨br, 0, none⟩), .agg e5.row.toArray] W (fun e w' => e = .returned (.tuple #[.agg (f5 G).row.toArray, .int .i64 0]) ∧ Rg br W w' ∧ Arr w' br 75 [.string S0, .int .i64 1, .int .i64 1]) from fun W br ha hi hk => by
  have := esign_any W br S0 1 0 ok10 ha e5 E5 hi hk
  rw [hsV, hsE, hsR] at this; exact this)
 have hok2 : okL [(eT e5), G] := ⟨by simp, fun s hs => by
  simp only [List.mem_cons, List.not_mem_nil, or_false] at hs
  rcases hs with rfl | rfl
  · exact (show (eT e5).size ≤ 8192 from by decide +kernel)
  · omega⟩
 have hB : eB (f5 G) = listS [(eT e5), G] := by rw [eB_yes hf0, hT5]; rfl
 have hBE : eBE (f5 G) = 0 := by rw [eBE_yes hf0, hT5]; exact listE_yes hok2
 obtain ⟨X, hX⟩ : ∃ X, eB (f5 G) = X := ⟨_, rfl⟩
 have hX2 : mkS (encL [(eT e5), G]) = X := by rw [← hX, hB, listS_yes hok2]
 have hXs : X.size ≤ 65536 := by
  rw [← hX2, mkS_size]; unfold encL
  have e1 := Ho.encTs_len [(eT e5), G] 8192 (by omega) hok2.2
  have e2 := encN_len64 ([(eT e5), G] : List ByteArray).length (by simp)
  simp only [List.length_append, List.length_cons, List.length_nil] at e1 e2 ⊢; omega
 have hmore := al_more hok2 33
 rw [hX2] at hmore
 have hback := eP_back (x := f5 G) hf0 rfl (by rw [hT5]; exact hok2)
 rw [hX] at hback
 have hs1 : ((⟨#[33]⟩ : ByteArray)).size = 1 := rfl
 have hss : (X ++ (⟨#[33]⟩ : ByteArray)).size ≤ 65537 := by rw [ByteArray.size_append, hs1]; omega
 have hrd := er_back (x := e5) e5_ok rfl
 have hte := eT_size e5 rfl
 obtain ⟨R, hR⟩ : ∃ R, keyR S0 1 0 = R := ⟨_, rfl⟩
 have hRl := hidp (show R.length = 32 from by rw [← hR]; exact keyR_len _ _ _)
 have hR8 := hidp (show (u8s R).length = 32 from by rw [u8s_length]; exact hRl.out)
 have hRr : rootV (leafL S0.data.toList 1) = R := by rw [← hR]; unfold keyR; rw [ok10]; rfl
 rw [show rootV (leafL [115] 1) = R from hRr] at hv6
 have cr := hidp (show ∀ W, KT W → Calls Tryz.prog 39 #[.agg #[.string ⟨#[115]⟩, .int .i64 1, .int .i64 0]] W (fun e w' => e = .returned (.tuple #[.agg (u8s R).toArray, .int .i64 0]) ∧ Below W.heap.size W w') from fun W hk => by
  have := kroot_any W S0 1 0 hk
  rw [hR, show kyE S0 1 0 = 0 from by unfold kyE; rw [ok10]; rfl] at this; exact this)
 have hvg : vG ⟨2, 0, 9, 1, R⟩ = true := rfl
 have hv1 : evfE [⟨2, 0, 9, 1, R⟩] 2 (f5 G) = 0 := by
  unfold evfE bvE
  obtain ⟨q1, q2⟩ := fi_one hvg 2 5
  have q3 : fdG 2 5 ⟨2, 0, 9, 1, R⟩ = true := rfl
  rw [q3] at q1
  rw [hf0, if_pos rfl, hT5]
  show (if fiE [⟨2, 0, 9, 1, R⟩] 2 5 = 0 then vfE (fiV [⟨2, 0, 9, 1, R⟩] 2 5).r (fiV [⟨2, 0, 9, 1, R⟩] 2 5).h (eT e5) G else _) = 0
  rw [q1, if_pos (by rfl), q2 q3]
  have := hvs R
  rw [if_pos hRr] at this
  exact this
 have hv2 : evfE [⟨2, 0, 9, 1, R⟩] 2 (f6 G) = 9 := by
  unfold evfE bvE
  obtain ⟨q1, q2⟩ := fi_one hvg 2 6
  have q3 : fdG 2 6 ⟨2, 0, 9, 1, R⟩ = true := rfl
  rw [q3] at q1
  rw [hf6, if_pos rfl, hT6]
  show (if fiE [⟨2, 0, 9, 1, R⟩] 2 6 = 0 then vfE (fiV [⟨2, 0, 9, 1, R⟩] 2 6).r (fiV [⟨2, 0, 9, 1, R⟩] 2 6).h (eT (⟨⟨#[33, 104, 97, 108, 108, 58, 48]⟩, 1, 6, z32e, ⟨#[120]⟩, ⟨#[]⟩⟩ : En)) G else _) = 9
  rw [q1, if_pos (by rfl), q2 q3]
  exact hv6
 have hv3 : evfE [⟨2, 0, 9, 1, R⟩] 1 (f6 G) = 3 := by
  unfold evfE bvE
  obtain ⟨q1, q2⟩ := fi_one hvg 1 6
  have q3 : fdG 1 6 ⟨2, 0, 9, 1, R⟩ = false := rfl
  rw [q3] at q1
  rw [hf6, if_pos rfl]
  show (if fiE [⟨2, 0, 9, 1, R⟩] 1 6 = 0 then _ else fiE [⟨2, 0, 9, 1, R⟩] 1 6) = 3
  rw [q1]; rfl
 have cb := hidp (show ∀ W, IT W → Calls Tryz.prog 40 #[.agg (f5 G).row.toArray] W (fun e w' => e = .returned (.tuple #[.string X, .int .i64 0]) ∧ Below W.heap.size W w') from fun W hi => by
  have := ebytes_any W _ F5 hi
  rw [hX, hBE] at this; exact this)
 have cp1 := hidp (show ∀ W, IT W → Calls Tryz.prog 41 #[.string X] W (fun e w' => e = .returned (.tuple #[.agg (f5 G).row.toArray, .int .i64 0]) ∧ Below W.heap.size W w') from fun W hi => by
  have := eparse_any W X (by omega) hi
  rw [show epV X = f5 G from by unfold epV; rw [hback]; rfl, show epE X = 0 from by unfold epE; rw [hback]; rfl] at this; exact this)
 obtain ⟨T, hT⟩ : ∃ T, eT e5 = T := ⟨_, rfl⟩
 have ct := hidp (show ∀ W, IT W → Calls Tryz.prog 37 #[.agg (f5 G).row.toArray] W (fun e w' => e = .returned (.tuple #[.string T, .int .i64 0]) ∧ Below W.heap.size W w') from fun W hi => by
  have := etext_any W _ F5 hi
  rw [hT5, hT, eE_yes hf0] at this; exact this)
 have cd := hidp (show ∀ W, IT W → Calls Tryz.prog 38 #[.string T] W (fun e w' => e = .returned (.tuple #[.agg e5.row.toArray, .int .i64 0]) ∧ Below W.heap.size W w') from fun W hi => by
  have := eread_any W T (by rw [← hT]; omega) hi
  rw [hT] at hrd
  rw [show erV T = e5 from by unfold erV; rw [hrd]; rfl, show erE T = 0 from by unfold erE; rw [hrd]; rfl] at this; exact this)
 have cp2 := hidp (show ∀ W, IT W → Calls Tryz.prog 41 #[.string (X ++ (⟨#[33]⟩ : ByteArray))] W (fun e w' => e = .returned (.tuple #[.agg zEn.row.toArray, .int .i64 6]) ∧ Below W.heap.size W w') from fun W hi => by
  have := eparse_any W (X ++ (⟨#[33]⟩ : ByteArray)) (by omega) hi
  have hb := eP_bad (t := X ++ (⟨#[33]⟩ : ByteArray)) (by rw [hmore]; decide)
  rw [show epV (X ++ (⟨#[33]⟩ : ByteArray)) = zEn from by unfold epV; rw [hb]; rfl, show epE (X ++ (⟨#[33]⟩ : ByteArray)) = 6 from by unfold epE; rw [hb]; rfl] at this; exact this)
 have cv1 := hidp (show ∀ W v, GsAt W v [⟨2, 0, 9, 1, R⟩] → IT W → KT W → Calls Tryz.prog 10 #[v, .int .i64 2, .agg (f5 G).row.toArray] W (fun e w' => e = .returned (.int .i64 0) ∧ Below W.heap.size W w') from fun W v hg hi hk => by
  have := everify_any W v _ hg 2 _ F5 hi hk
  rw [hv1] at this; exact this)
 have cv2 := hidp (show ∀ W v, GsAt W v [⟨2, 0, 9, 1, R⟩] → IT W → KT W → Calls Tryz.prog 10 #[v, .int .i64 2, .agg (f6 G).row.toArray] W (fun e w' => e = .returned (.int .i64 9) ∧ Below W.heap.size W w') from fun W v hg hi hk => by
  have := everify_any W v _ hg 2 _ F6 hi hk
  rw [hv2] at this; exact this)
 have cv3 := hidp (show ∀ W v, GsAt W v [⟨2, 0, 9, 1, R⟩] → IT W → KT W → Calls Tryz.prog 10 #[v, .int .i64 1, .agg (f6 G).row.toArray] W (fun e w' => e = .returned (.int .i64 3) ∧ Below W.heap.size W w') from fun W v hg hi hk => by
  have := everify_any W v _ hg 1 _ F6 hi hk
  rw [hv3] at this; exact this)
 have cc := hidp (show ∀ W, IT W → Calls Tryz.prog 42 #[.agg zEn.row.toArray] W (fun e w' => e = .returned (.int .i64 2) ∧ Below W.heap.size W w') from fun W hi => by
  have := echeck_any W zEn ⟨by decide, rfl, by decide, by decide⟩ hi
  rw [eE_no z_no] at this; exact this)
 have qe := fun W => eqin_en W e5 rfl
 have ge := guard_en
 have hlen : decide ((G.size : Int) > 1000) = true := by simp; omega
 have hlen2 : (1000 : Int) < (G.size : Int) := by omega
 have H := hidp (Mm.M.nil w)
 clear h1 h2 h3 hp hvs hv6 hG hG2 hf0 hf6 hT5 hT6 hsV hsE hsR hB hBE hX hok2 hX2 hmore hback E5 F5 F6 hR hRr hvg hv1 hv2 hv3 hGs hT hrd hte
 go_enter Tryz.func8, Tryz.ntmps8
 have tk0 := hidp trivial
 go_upto_region 16 with (first | (clear tk0; (refine Rt.wpL_build rfl 27 _ rfl e5.row (by kernel_rfl) ?_); (try simp only [Act.put, aQ]); have tk1 := hidp trivial) | (clear tk1; (refine Mm.new rtE H (some 1) rfl rfl rfl ?_; clear H; intro b1 _ H nw; have hb := nw.below; clear hb nw); (try simp only [Act.put, aQ]); have tk2 := hidp trivial) | (clear tk2; (refine Mm.put0 rtE H rfl (.tmp 1) (.tmp 21) e5.row rfl rfl rfl (En.len (rfl : e5.p.length = 32)) (En.one e5) (En.len (rfl : zEn.p.length = 32)) ?_; intro _ H2 st; clear st H; have H := H2; clear H2); (try simp only [Act.put, aQ]); have tk3 := hidp trivial) | (clear tk3; (refine Rt.wpL_build rfl 23 _ rfl [.string ⟨#[115]⟩, .int .i64 1, .int .i64 0] (by kernel_rfl) ?_); (try simp only [Act.put, aQ]); have tk4 := hidp trivial) | (clear tk4; (refine Mm.new rtK H (some 2) rfl rfl rfl ?_; clear H; intro b2 _ H nw; have hb := nw.below; clear hb nw); (try simp only [Act.put, aQ]); have tk5 := hidp trivial) | (clear tk5; (refine Mm.put0 rtK H rfl (.tmp 2) (.tmp 22) [.string ⟨#[115]⟩, .int .i64 1, .int .i64 0] rfl rfl rfl rfl (by simp [Value.oneCell']) rfl ?_; intro _ H2 st; clear st H; have H := H2; clear H2); (try simp only [Act.put, aQ]); have tk6 := hidp trivial) | (clear tk6; (refine Mm.get0 rtK H rfl (.tmp 2) rfl rfl rfl ?_); (try simp only [Act.put, aQ]); have tk7 := hidp trivial) | (clear tk7; (go_at_call 12; refine (ck.out _).mono ?_; rintro e _ ⟨br, rfl, hring, hge, hb⟩; replace H := hidp (H.out.add (m := 0) hb hge hring); clear hring hge hb ck); (try simp only [Act.put, aQ]); have tk8 := hidp trivial) | (clear tk8; (refine Mm.get1 rtK H rfl (.tmp 2) rfl rfl rfl ?_); (try simp only [Act.put, aQ]); have tk9 := hidp trivial) | (clear tk9; (go_at_call 39; refine (cr.out _ (HK.out.below H.out.below hkp)).mono ?_; rintro e _ ⟨rfl, hb⟩; replace H := hidp (H.out.call hb); clear cr; clear hb); (try simp only [Act.put, aQ]); have tk10 := hidp trivial) | (clear tk10; (refine Mm.new rtH H (some 5) rfl rfl rfl ?_; clear H; intro b5 _ H nw; have hb := nw.below; clear hb nw); (try simp only [Act.put, aQ]); have tk11 := hidp trivial) | (clear tk11; (refine Mm.put0 rtH H rfl (.tmp 5) (.tmp 31) (u8s R) rfl rfl rfl hR8.out (u8_one _) rfl ?_; intro _ H2 st; clear st H; have H := H2; clear H2); (try simp only [Act.put, aQ]); have tk12 := hidp trivial) | (clear tk12; (refine Mm.get3 rtE H rfl (.tmp 1) rfl rfl (En.len (rfl : e5.p.length = 32)) ?_); (try simp only [Act.put, aQ]); have tk13 := hidp trivial) | (clear tk13; (go_at_call 13; refine (cs.out _ br H.out.at1 (HI.out.below H.out.below (Nat.le_refl _)) (HK.out.below H.out.below hkp)).mono ?_; rintro e _ ⟨rfl, hr, ha⟩; replace H := (show Hid (Mm.M w.heap.size w _ ([⟨b5, 25, (u8s R)⟩, ⟨br, 75, [.string S0, .int .i64 1, .int .i64 1]⟩, ⟨b2, 23, [.string ⟨#[115]⟩, .int .i64 1, .int .i64 0]⟩, ⟨b1, 27, e5.row⟩])) from hidp (rgAt H.out 1 rfl hr ha)); clear hr ha cs); (try simp only [Act.put, aQ]); have tk14 := hidp trivial) | (clear tk14; (refine Mm.new rtE H (some 7) rfl rfl rfl ?_; clear H; intro b7 _ H nw; have hb := nw.below; clear hb nw); (try simp only [Act.put, aQ]); have tk15 := hidp trivial) | (clear tk15; (refine Mm.put0 rtE H rfl (.tmp 7) (.tmp 47) (f5 G).row rfl rfl rfl (En.len (rfl : (f5 G).p.length = 32)) (En.one (f5 G)) (En.len (rfl : zEn.p.length = 32)) ?_; intro _ H2 st; clear st H; have H := H2; clear H2); (try simp only [Act.put, aQ]); have tk16 := hidp trivial) | (clear tk16; (refine Mm.get1 rtH H rfl (.tmp 5) rfl rfl hR8.out ?_); (try simp only [Act.put, aQ]); have tk17 := hidp trivial) | (clear tk17; (refine wpL_bldG rfl _ _ _ (.tmp 49) rfl 2 9 1 R rfl rfl rfl rfl hRl.out ?_); (try simp only [Act.put, aQ]); have tk18 := hidp trivial) | (clear tk18; (refine Rw.wpL_bs1R rwG rfl (.tmp 50) rfl (Gr.row ⟨2, 0, 9, 1, R⟩) rfl (Gr.len hRl.out) ?_; intro bg _ nw; replace H := hidp (H.out.new nw); clear nw); (try simp only [Act.put, aQ]); have tk19 := hidp trivial) | (clear tk19; (refine Mm.get1 rtE H rfl (.tmp 7) rfl rfl (En.len (rfl : (f5 G).p.length = 32)) ?_); (try simp only [Act.put, aQ]); have tk20 := hidp trivial) | (clear tk20; (go_at_call 40; refine (cb.out _ (HI.out.below H.out.below (Nat.le_refl _))).mono ?_; rintro e _ ⟨rfl, hb⟩; replace H := hidp (H.out.call hb); clear cb; clear hb); (try simp only [Act.put, aQ]); have tk21 := hidp trivial) | (clear tk21; (go_at_call 41; refine (cp1.out _ (HI.out.below H.out.below (Nat.le_refl _))).mono ?_; rintro e _ ⟨rfl, hb⟩; replace H := hidp (H.out.call hb); clear cp1; clear hb); (try simp only [Act.put, aQ]); have tk22 := hidp trivial) | (clear tk22; (refine Mm.new rtE H (some 12) rfl rfl rfl ?_; clear H; intro b12 _ H nw; have hb := nw.below; clear hb nw); (try simp only [Act.put, aQ]); have tk23 := hidp trivial) | (clear tk23; (refine Mm.put0 rtE H rfl (.tmp 12) (.tmp 60) (f5 G).row rfl rfl rfl (En.len (rfl : (f5 G).p.length = 32)) (En.one (f5 G)) (En.len (rfl : zEn.p.length = 32)) ?_; intro _ H2 st; clear st H; have H := H2; clear H2); (try simp only [Act.put, aQ]); have tk24 := hidp trivial) | (clear tk24; (refine Mm.get2 rtE H rfl (.tmp 7) rfl rfl (En.len (rfl : (f5 G).p.length = 32)) ?_); (try simp only [Act.put, aQ]); have tk25 := hidp trivial) | (clear tk25; (go_at_call 37; refine (ct.out _ (HI.out.below H.out.below (Nat.le_refl _))).mono ?_; rintro e _ ⟨rfl, hb⟩; replace H := hidp (H.out.call hb); clear ct; clear hb); (try simp only [Act.put, aQ]); have tk26 := hidp trivial) | (clear tk26; (go_at_call 38; refine (cd.out _ (HI.out.below H.out.below (Nat.le_refl _))).mono ?_; rintro e _ ⟨rfl, hb⟩; replace H := hidp (H.out.call hb); clear cd; clear hb); (try simp only [Act.put, aQ]); have tk27 := hidp trivial) | (clear tk27; (refine Mm.new rtE H (some 16) rfl rfl rfl ?_; clear H; intro b16 _ H nw; have hb := nw.below; clear hb nw); (try simp only [Act.put, aQ]); have tk28 := hidp trivial) | (clear tk28; (refine Mm.put0 rtE H rfl (.tmp 16) (.tmp 70) e5.row rfl rfl rfl (En.len (rfl : e5.p.length = 32)) (En.one e5) (En.len (rfl : zEn.p.length = 32)) ?_; intro _ H2 st; clear st H; have H := H2; clear H2); (try simp only [Act.put, aQ]); have tk29 := hidp trivial) | (clear tk29; (go_at_call 41; refine (cp2.out _ (HI.out.below H.out.below (Nat.le_refl _))).mono ?_; rintro e _ ⟨rfl, hb⟩; replace H := hidp (H.out.call hb); clear cp2; clear hb); (try simp only [Act.put, aQ]); have tk30 := hidp trivial) | (clear tk30; (refine Mm.new rtE H (some 18) rfl rfl rfl ?_; clear H; intro b18 _ H nw; have hb := nw.below; clear hb nw); (try simp only [Act.put, aQ]); have tk31 := hidp trivial) | (clear tk31; (refine Mm.put0 rtE H rfl (.tmp 18) (.tmp 76) zEn.row rfl rfl rfl (En.len (rfl : zEn.p.length = 32)) (En.one zEn) (En.len (rfl : zEn.p.length = 32)) ?_; intro _ H2 st; clear st H; have H := H2; clear H2); (try simp only [Act.put, aQ]); have tk32 := hidp trivial) | (clear tk32; (refine Mm.get4 rtE H rfl (.tmp 7) rfl rfl (En.len (rfl : (f5 G).p.length = 32)) ?_); (try simp only [Act.put, aQ]); have tk33 := hidp trivial) | (clear tk33; (go_at_call 10; refine (cv1.out _ _ (gs_one hRl.out H.out.at3) (HI.out.below H.out.below (Nat.le_refl _)) (HK.out.below H.out.below hkp)).mono ?_; rintro e _ ⟨rfl, hb⟩; replace H := hidp (H.out.call hb); clear cv1; clear hb); (try simp only [Act.put, aQ]); have tk34 := hidp trivial) | (clear tk34; (refine Mm.putF4 H rfl 3 (.tmp 81) (.const (.int .i64 6)) 2 (.int .i64 6) rfl rfl rfl (by kernel_rfl) rfl (by rw [En.len (rfl : (f5 G).p.length = 32)]; decide) ?_; intro _ H2 st; clear st H; rw [set56] at H2; have H := H2; clear H2); (try simp only [Act.put, aQ]); have tk35 := hidp trivial))
 try clear tk35
 refine wp_region_list ?_
 simp only [List.append_eq, List.cons_append, List.nil_append]
 have tk0 := hidp trivial
 go_wp2_with (first | (clear tk0; (refine Mm.ld2 naI H rfl (.tmp 89) 2 (.int .i64 5) rfl rfl rfl ?_); (try simp only [Act.put, aQ]); have tk1 := hidp trivial) | (clear tk1; (refine Mm.ld2 naS H rfl (.tmp 94) 36 (.string G) rfl rfl (En.get36 rfl) ?_); (try simp only [Act.put, aQ]); have tk2 := hidp trivial) | (clear tk2; (refine Mm.ld4 naS H rfl (.tmp 96) 36 (.string G) rfl rfl (En.get36 rfl) ?_); (try simp only [Act.put, aQ]); have tk3 := hidp trivial) | (clear tk3; (refine Mm.ld4 naS H rfl (.tmp 101) 36 (.string G) rfl rfl (En.get36 rfl) ?_); (try simp only [Act.put, aQ]); have tk4 := hidp trivial) | (clear tk4; (refine Mm.get1 rtE H rfl (.tmp 16) rfl rfl (En.len (rfl : e5.p.length = 32)) ?_); (try simp only [Act.put, aQ]); have tk5 := hidp trivial) | (clear tk5; (refine Mm.get8 rtE H rfl (.tmp 1) rfl rfl (En.len (rfl : e5.p.length = 32)) ?_); (try simp only [Act.put, aQ]); have tk6 := hidp trivial) | (clear tk6; (refine Mm.get4 rtE H rfl (.tmp 7) rfl rfl (En.len (rfl : (f6 G).p.length = 32)) ?_); (try simp only [Act.put, aQ]); have tk7 := hidp trivial) | (clear tk7; (go_at_call 10; refine (cv2.out _ _ (gs_one hRl.out H.out.at3) (HI.out.below H.out.below (Nat.le_refl _)) (HK.out.below H.out.below hkp)).mono ?_; rintro e _ ⟨rfl, hb⟩; replace H := hidp (H.out.call hb); clear cv2; clear hb); (try simp only [Act.put, aQ]); have tk8 := hidp trivial) | (clear tk8; (refine Mm.get4 rtE H rfl (.tmp 7) rfl rfl (En.len (rfl : (f6 G).p.length = 32)) ?_); (try simp only [Act.put, aQ]); have tk9 := hidp trivial) | (clear tk9; (go_at_call 10; refine (cv3.out _ _ (gs_one hRl.out H.out.at3) (HI.out.below H.out.below (Nat.le_refl _)) (HK.out.below H.out.below hkp)).mono ?_; rintro e _ ⟨rfl, hb⟩; replace H := hidp (H.out.call hb); clear cv3; clear hb); (try simp only [Act.put, aQ]); have tk10 := hidp trivial) | (clear tk10; (refine Rt.wpL_build rfl 27 _ rfl zEn.row (by kernel_rfl) ?_); (try simp only [Act.put, aQ]); have tk11 := hidp trivial) | (clear tk11; (go_at_call 42; refine (cc.out _ (HI.out.below H.out.below (Nat.le_refl _))).mono ?_; rintro e _ ⟨rfl, hb⟩; replace H := hidp (H.out.call hb); clear cc; clear hb); (try simp only [Act.put, aQ]); have tk12 := hidp trivial))
 try clear tk12
 go_ret
 exact ⟨rfl, H.out.below⟩
end Go.Proofs.YtbgooppmhgaicaaGreatDoor.En
