import Derived.Test.YtbgooppmhgaicaaGreatDoorEU3
import Derived.Test.YtbgooppmhgaicaaGreatDoorES6
import Derived.Test.YtbgooppmhgaicaaGreatDoorEX
set_option linter.unusedVariables false
set_option linter.unusedSimpArgs false
set_option maxHeartbeats 64000000
set_option maxRecDepth 100000
namespace Go.Proofs.YtbgooppmhgaicaaGreatDoor.Hd
open Go.RowKit
open List (getElem_toArray getElem_cons_zero getElem_cons_succ setIfInBounds_toArray set_cons_zero set_cons_succ)
open En (cnt num4 num4_in z32e naS naI rtH u8_one hsV hsE hsV_len ohash_any s_cnv wpL_slc or4 or4_zero or4_any four s_bld wpL_bsE4)
open En (eOk eE eT eE_yes eE_no esmV esum_any e5 e5_ok rtK)
open Ho (fi_one gs_one rwG wpL_bldG S0 ok10 Rg rgAt)
theorem guard_hd : Tryz.prog.eqGuardType Tryz.prog.depth 53 = false := by kernel_rfl
theorem eqin_hdd (W : World) (x : Hd) (hp : x.p.length = 32) : (Op.equalIn 10000 53 (.agg x.row.toArray) (.agg x.row.toArray)).run Tryz.prog W = .ok true W := by
 have ht : Tryz.prog.underlying 53 = some (.struct (Tryz.prog.fieldsOf 53)) := by kernel_rfl
 have hst : Tryz.prog.stoodInHeld 53 = false := by kernel_rfl
 have hu := Tryz.underlying53
 have hus := Tryz.underlying9
 have hui := Tryz.underlying3
 have hl := Hd.len hp
 have r0 : x.row[0]'(by omega) = .string x.r := rfl
 have r1 : x.row[1]'(by omega) = .int .i64 x.e := rfl
 have r2 : x.row[2]'(by omega) = .int .i64 x.i := rfl
 have r35 : x.row[35]'(by omega) = .string x.g := by have := Hd.get35 hp; rw [List.getElem?_eq_getElem (by omega)] at this; simpa using this
 have r4 : List.take 32 (List.drop 3 x.row) = u8s x.p := by
  rw [Hd.mid, List.take_append_of_le_length (by rw [u8s_length, hp]; exact Nat.le_refl _), List.take_of_length_le (by rw [u8s_length, hp]; exact Nat.le_refl _)]
 have qh := fun W => eqin_hd 9997 W x.p x.p hp hp
 simp only [decide_true] at qh
 rw [run_equalIn_agg W 9999 _ _ _ ht hst]
 unfold Program.fieldsOf
 rw [hu]
 go_simp
theorem hd_mid {w : World} {b : Nat} {x : Hd} (ha : Arr w b 53 x.row) : w.rangeAt b 3 (u8s x.p) := by
 have h := ha.range
 unfold Hd.row at h
 rw [List.append_assoc, rangeAt_app] at h
 have := (rangeAt_app.1 h.2).1
 simpa using this
section
variable {ops : Array Oper} {rest : List Oper} {o : Oper} {a : Act} {w : World} {Q : Exit → Act → World → Prop}
theorem wpL_mid (hw : Region.wanted o (yielded ops a.tmps) = true) (x : Operand) (ho : o.op = .load 25 x) (b off : Nat) (l : List UInt8) (hx : a.eval x = .pointer (some ⟨b, off, none⟩)) (hl : l.length = 32) (hg : w.rangeAt b off (u8s l))
 (h : wpList Tryz.prog ops Q rest (a.put o.dst (.agg (u8s l).toArray)) w) : wpList Tryz.prog ops Q (o :: rest) a w :=
 wpList_step fun K hK => by
  rw [if_pos hw]
  exact wp_load_mid 25 x ho b off hx (u8s l) _ hg hash_row rfl (by have := hash_size hl; simpa using this) (hK _ _ h)
end
def h5 : Hd := (⟨⟨#[33, 104, 97, 108, 108, 58, 48]⟩, 1, 5, UU, ⟨#[]⟩⟩ : Hd)
def f5 (G : ByteArray) : Hd := (⟨⟨#[33, 104, 97, 108, 108, 58, 48]⟩, 1, 5, UU, G⟩ : Hd)
def f6 (G : ByteArray) : Hd := (⟨⟨#[33, 104, 97, 108, 108, 58, 48]⟩, 2, 5, UU, G⟩ : Hd)
theorem h5_ok : jOk h5 = true := by decide +kernel
theorem zh_no : jOk zHd = false := by decide +kernel
theorem f6_ok {G : ByteArray} (h : G.size ≤ 8192) : jOk (f6 G) = true := wSigJ_ok (x := (⟨⟨#[33, 104, 97, 108, 108, 58, 48]⟩, 2, 5, UU, ⟨#[]⟩⟩ : Hd)) (by decide +kernel) h
theorem of5 : jOf e5 = h5 := by unfold jOf; rw [if_pos e5_ok]; show (⟨_, _, _, esmV e5, _⟩ : Hd) = _; rw [show esmV e5 = UU from sum5]; rfl
theorem set51 {G : ByteArray} : (f5 G).row.set 1 (.int .i64 2) = (f6 G).row := rfl
theorem lives21_any (w : World) (hI : IT w) (hK : KT w) : Calls Tryz.prog 20 #[] w fun e w' => e = .returned (.bool true) ∧ Below w.heap.size w w' := by
 have hkp := hK.pos
 have HI := hidp hI; have HK := hidp hK; clear hI hK
 have ck := hidp (show ∀ W, Calls Tryz.prog 12 #[.agg #[.string ⟨#[115]⟩, .int .i64 1, .int .i64 0]] W (fun e w' => ∃ b, e = .returned (.tuple #[.pointer (some ⟨b, 0, none⟩), .int .i64 0]) ∧ Arr w' b 75 [.string S0, .int .i64 1, .int .i64 0] ∧ W.heap.size ≤ b ∧ Below W.heap.size W w') from fun W => kmake_yes W S0 1 0 (by decide) ok10)
 obtain ⟨h1, h2, h3⟩ := sg_yes (S := S0) (H := 1) (N := 0) (jT h5).data.toList ok10 (by decide)
 have hp := sig_parts (S := S0) (h := 1) (m := 0) (jT h5).data.toList (by decide) (by decide)
 have hvs := fun root => vf_sign (S := S0) (h := 1) (m := 0) (jT h5) root (by decide) (by decide)
 have hv6 := vf_six
 obtain ⟨G, hG⟩ : ∃ G, sgS S0 1 0 (jT h5).data.toList = G := ⟨_, rfl⟩
 have hG2 : mkS (sigL S0.data.toList 1 0 (jT h5).data.toList) = G := by rw [← hG, h2]; rfl
 rw [show mkS (sigL [115] 1 0 (jT (⟨⟨#[33, 104, 97, 108, 108, 58, 48]⟩, 1, 5, UU, ⟨#[]⟩⟩ : Hd)).data.toList) = G from hG2] at hv6
 rw [hG2] at hp hvs
 have hGs : G.size = 1121 := hp.2.1
 have hf0 : jOk (f5 G) = true := wSigJ_ok (x := h5) (g := G) h5_ok (by omega)
 have hf6 : jOk (f6 G) = true := f6_ok (by omega)
 have hT5 : jT (f5 G) = (jT h5) := jT_sig (x := h5) (g := G) h5_ok (by omega)
 have hT6 : jT (f6 G) = jT (⟨⟨#[33, 104, 97, 108, 108, 58, 48]⟩, 2, 5, UU, ⟨#[]⟩⟩ : Hd) := jT_sig (x := (⟨⟨#[33, 104, 97, 108, 108, 58, 48]⟩, 2, 5, UU, ⟨#[]⟩⟩ : Hd)) (g := G) (by decide +kernel) (by omega)
 have hsV : jsV S0 1 0 h5 = f5 G := by
  unfold jsV
  rw [if_pos ⟨h5_ok, h3⟩]
  show wSigJ h5 (sgS S0 1 0 (jT h5).data.toList) = f5 G
  rw [hG]; rfl
 have hsE : jsE S0 1 0 h5 = 0 := by unfold jsE; rw [h5_ok, if_pos rfl]; exact h3
 have hsR : jsR S0 1 0 h5 = [.string S0, .int .i64 1, .int .i64 1] := by
  unfold jsR rgA
  rw [h5_ok, if_pos rfl, if_pos (by exact h3)]; exact h1
 have E5 : e5.ok := ⟨by show (⟨#[33, 104, 97, 108, 108, 58, 48]⟩ : ByteArray).size ≤ _; decide, rfl, by show (⟨#[120]⟩ : ByteArray).size ≤ _; decide, by show (⟨#[]⟩ : ByteArray).size ≤ _; decide⟩
 have H5 : h5.ok := ⟨E5.r, rfl, by show (⟨#[]⟩ : ByteArray).size ≤ _; decide⟩
 have F5 : (f5 G).ok := ⟨H5.r, rfl, by show G.size ≤ _; omega⟩
 have F6 : (f6 G).ok := ⟨H5.r, rfl, by show G.size ≤ _; omega⟩
 have co := hidp (show ∀ W, IT W → KT W → Calls Tryz.prog 29 #[.agg e5.row.toArray] W (fun e w' => e = .returned (.tuple #[.agg h5.row.toArray, .int .i64 0]) ∧ Below W.heap.size W w') from fun W hi hk => by
  have := jof_any W e5 E5 hi hk
  rw [of5, eE_yes e5_ok] at this; exact this)
 have cu := hidp (show ∀ W, IT W → KT W → Calls Tryz.prog 17 #[.agg e5.row.toArray] W (fun e w' => e = .returned (.tuple #[.agg (u8s UU).toArray, .int .i64 0]) ∧ Below W.heap.size W w') from fun W hi hk => by
  have := esum_any W e5 E5 hi hk
  rw [show esmV e5 = UU from sum5, eE_yes e5_ok] at this; exact this)
 have cs := hidp (show ∀ W br, Arr W br 75 [.string S0, .int .i64 1, .int .i64 0] → IT W → KT W → Calls Tryz.prog 35 #[.pointer (some ⟨br, 0, none⟩), .agg h5.row.toArray] W (fun e w' => e = .returned (.tuple #[.agg (f5 G).row.toArray, .int .i64 0]) ∧ Rg br W w' ∧ Arr w' br 75 [.string S0, .int .i64 1, .int .i64 1]) from fun W br ha hi hk => by
  have := jsign_any W br S0 1 0 ok10 ha h5 H5 hi hk
  rw [hsV, hsE, hsR] at this; exact this)
 have hok2 : okL [(jT h5), G] := ⟨by simp, fun s hs => by
  simp only [List.mem_cons, List.not_mem_nil, or_false] at hs
  rcases hs with rfl | rfl
  · exact (show (jT h5).size ≤ 8192 from by decide +kernel)
  · omega⟩
 have hB : jB (f5 G) = listS [(jT h5), G] := by rw [jB_yes hf0, hT5]; rfl
 have hBE : jBE (f5 G) = 0 := by rw [jBE_yes hf0, hT5]; exact listE_yes hok2
 obtain ⟨X, hX⟩ : ∃ X, jB (f5 G) = X := ⟨_, rfl⟩
 have hX2 : mkS (encL [(jT h5), G]) = X := by rw [← hX, hB, listS_yes hok2]
 have hXs : X.size ≤ 65536 := by
  rw [← hX2, mkS_size]; unfold encL
  have e1 := Ho.encTs_len [(jT h5), G] 8192 (by omega) hok2.2
  have e2 := encN_len64 ([(jT h5), G] : List ByteArray).length (by simp)
  simp only [List.length_append, List.length_cons, List.length_nil] at e1 e2 ⊢; omega
 have hback := jP_back (x := f5 G) hf0 rfl (by rw [hT5]; exact hok2)
 rw [hX] at hback
 have hal : (al X).1.length ≠ 5 := by rw [← hX2, al_back _ hok2]; show (2 : Nat) ≠ 5; decide
 have hrd := jr_len hal
 obtain ⟨R, hR⟩ : ∃ R, keyR S0 1 0 = R := ⟨_, rfl⟩
 have hRl := hidp (show R.length = 32 from by rw [← hR]; exact keyR_len _ _ _)
 have hU8 := hidp (show (u8s UU).length = 32 from by rw [u8s_length]; rfl)
 have hRr : rootV (leafL S0.data.toList 1) = R := by rw [← hR]; unfold keyR; rw [ok10]; rfl
 rw [show rootV (leafL [115] 1) = R from hRr] at hv6
 have cr := hidp (show ∀ W br, Arr W br 75 [.string S0, .int .i64 1, .int .i64 1] → KT W → Calls Tryz.prog 61 #[.pointer (some ⟨br, 0, none⟩)] W (fun e w' => e = .returned (.agg (u8s R).toArray) ∧ Below W.heap.size W w') from fun W br ha hk => by
  have := krRoot_any W br S0 1 1 ha hk
  rw [show keyR S0 1 1 = R from by rw [← hR]; rfl] at this; exact this)
 have hvg : vG ⟨2, 0, 9, 1, R⟩ = true := rfl
 have hv1 : jvfE [⟨2, 0, 9, 1, R⟩] 2 (f5 G) = 0 := by
  unfold jvfE bvE
  obtain ⟨q1, q2⟩ := fi_one hvg 2 5
  have q3 : fdG 2 5 ⟨2, 0, 9, 1, R⟩ = true := rfl
  rw [q3] at q1
  rw [hf0, if_pos rfl, hT5]
  show (if fiE [⟨2, 0, 9, 1, R⟩] 2 5 = 0 then vfE (fiV [⟨2, 0, 9, 1, R⟩] 2 5).r (fiV [⟨2, 0, 9, 1, R⟩] 2 5).h (jT h5) G else _) = 0
  rw [q1, if_pos (by rfl), q2 q3]
  have := hvs R
  rw [if_pos hRr] at this
  exact this
 have hv2 : jvfE [⟨2, 0, 9, 1, R⟩] 2 (f6 G) = 9 := by
  unfold jvfE bvE
  obtain ⟨q1, q2⟩ := fi_one hvg 2 5
  have q3 : fdG 2 5 ⟨2, 0, 9, 1, R⟩ = true := rfl
  rw [q3] at q1
  rw [hf6, if_pos rfl, hT6]
  show (if fiE [⟨2, 0, 9, 1, R⟩] 2 5 = 0 then vfE (fiV [⟨2, 0, 9, 1, R⟩] 2 5).r (fiV [⟨2, 0, 9, 1, R⟩] 2 5).h (jT (⟨⟨#[33, 104, 97, 108, 108, 58, 48]⟩, 2, 5, UU, ⟨#[]⟩⟩ : Hd)) G else _) = 9
  rw [q1, if_pos (by rfl), q2 q3]
  exact hv6
 have cb := hidp (show ∀ W, IT W → Calls Tryz.prog 23 #[.agg (f5 G).row.toArray] W (fun e w' => e = .returned (.tuple #[.string X, .int .i64 0]) ∧ Below W.heap.size W w') from fun W hi => by
  have := jbytes_any W _ F5 hi
  rw [hX, hBE] at this; exact this)
 have cp := hidp (show ∀ W, IT W → Calls Tryz.prog 25 #[.string X] W (fun e w' => e = .returned (.tuple #[.agg (f5 G).row.toArray, .int .i64 0]) ∧ Below W.heap.size W w') from fun W hi => by
  have := jparse_any W X (by omega) hi
  rw [show jpV X = f5 G from by unfold jpV; rw [hback]; rfl, show jpE X = 0 from by unfold jpE; rw [hback]; rfl] at this; exact this)
 have cd := hidp (show ∀ W, IT W → Calls Tryz.prog 27 #[.string X] W (fun e w' => e = .returned (.tuple #[.agg zHd.row.toArray, .int .i64 6]) ∧ Below W.heap.size W w') from fun W hi => by
  have := jread_any W X (by omega) hi
  rw [show jrV X = zHd from by unfold jrV; rw [hrd]; rfl, show jrE X = 6 from by unfold jrE; rw [hrd]; rfl] at this; exact this)
 have cv1 := hidp (show ∀ W v, GsAt W v [⟨2, 0, 9, 1, R⟩] → IT W → KT W → Calls Tryz.prog 33 #[v, .int .i64 2, .agg (f5 G).row.toArray] W (fun e w' => e = .returned (.int .i64 0) ∧ Below W.heap.size W w') from fun W v hg hi hk => by
  have := jverify_any W v _ hg 2 _ F5 hi hk
  rw [hv1] at this; exact this)
 have cv2 := hidp (show ∀ W v, GsAt W v [⟨2, 0, 9, 1, R⟩] → IT W → KT W → Calls Tryz.prog 33 #[v, .int .i64 2, .agg (f6 G).row.toArray] W (fun e w' => e = .returned (.int .i64 9) ∧ Below W.heap.size W w') from fun W v hg hi hk => by
  have := jverify_any W v _ hg 2 _ F6 hi hk
  rw [hv2] at this; exact this)
 have cc := hidp (show ∀ W, IT W → Calls Tryz.prog 31 #[.agg zHd.row.toArray] W (fun e w' => e = .returned (.int .i64 2) ∧ Below W.heap.size W w') from fun W hi => by
  have := jcheck_any W zHd ⟨by decide, rfl, by decide⟩ hi
  rw [jE_no zh_no] at this; exact this)
 have qe := fun W => eqin_hdd W h5 rfl
 have ge := guard_hd
 have gh := guard_hash
 have qh : ∀ W, (Op.equalIn 10000 25 (.agg (u8s UU).toArray) (.agg (u8s UU).toArray)).run Tryz.prog W = .ok true W := fun W => by
  have := eqin_hd 9998 W UU UU rfl rfl
  simpa using this
 have H := hidp (Mm.M.nil w)
 clear h1 h2 h3 hp hvs hv6 hG hG2 hf0 hf6 hT5 hT6 hsV hsE hsR hB hBE hX hok2 hX2 hXs hback E5 H5 F5 F6 hR hRr hvg hv1 hv2 hGs hal hrd
 go_enter Tryz.func20, Tryz.ntmps20
 have tk0 := hT
 go_wp2_with (first | (clear tk0; (refine Rt.wpL_build rfl 27 _ rfl e5.row (by kernel_rfl) ?_); (try simp only [Act.put, aQ]); have tk1 := hT) | (clear tk1; (refine Mm.new En.rtE H (some 1) rfl rfl rfl ?_; clear H; intro b1 _ H nw; clear nw); (try simp only [Act.put, aQ]); have tk2 := hT) | (clear tk2; (refine Mm.put0 En.rtE H rfl (.tmp 1) (.tmp 19) e5.row rfl rfl rfl (En.En.len (rfl : e5.p.length = 32)) (En.En.one e5) (En.En.len (rfl : En.zEn.p.length = 32)) ?_; intro _ H2 st; clear st H; have H := H2; clear H2); (try simp only [Act.put, aQ]); have tk3 := hT) | (clear tk3; (refine Rt.wpL_build rfl 23 _ rfl [.string ⟨#[115]⟩, .int .i64 1, .int .i64 0] (by kernel_rfl) ?_); (try simp only [Act.put, aQ]); have tk4 := hT) | (clear tk4; (refine Mm.new rtK H (some 2) rfl rfl rfl ?_; clear H; intro b2 _ H nw; clear nw); (try simp only [Act.put, aQ]); have tk5 := hT) | (clear tk5; (refine Mm.put0 rtK H rfl (.tmp 2) (.tmp 20) [.string ⟨#[115]⟩, .int .i64 1, .int .i64 0] rfl rfl rfl rfl (by simp [Value.oneCell']) rfl ?_; intro _ H2 st; clear st H; have H := H2; clear H2); (try simp only [Act.put, aQ]); have tk6 := hT) | (clear tk6; (refine Mm.get0 rtK H rfl (.tmp 2) rfl rfl rfl ?_); (try simp only [Act.put, aQ]); have tk7 := hT) | (clear tk7; (go_at_call 12; refine (ck.out _).mono ?_; rintro e _ ⟨br, rfl, hring, hge, hb⟩; replace H := hidp (H.out.add (m := 0) hb hge hring); clear hring hge hb ck); (try simp only [Act.put, aQ]); have tk8 := hT) | (clear tk8; (refine Mm.get2 En.rtE H rfl (.tmp 1) rfl rfl (En.En.len (rfl : e5.p.length = 32)) ?_); (try simp only [Act.put, aQ]); have tk9 := hT) | (clear tk9; (go_at_call 29; refine (co.out _ (HI.out.below H.out.below (Nat.le_refl _)) (HK.out.below H.out.below hkp)).mono ?_; rintro e _ ⟨rfl, hb⟩; replace H := hidp (H.out.call hb); clear co; clear hb); (try simp only [Act.put, aQ]); have tk10 := hT) | (clear tk10; (refine Mm.new rtHd H (some 5) rfl rfl rfl ?_; clear H; intro b5 _ H nw; clear nw); (try simp only [Act.put, aQ]); have tk11 := hT) | (clear tk11; (refine Mm.put0 rtHd H rfl (.tmp 5) (.tmp 35) h5.row rfl rfl rfl (Hd.len (rfl : h5.p.length = 32)) (Hd.one h5) (Hd.len (rfl : zHd.p.length = 32)) ?_; intro _ H2 st; clear st H; have H := H2; clear H2); (try simp only [Act.put, aQ]); have tk12 := hT) | (clear tk12; (refine Mm.get3 En.rtE H rfl (.tmp 1) rfl rfl (En.En.len (rfl : e5.p.length = 32)) ?_); (try simp only [Act.put, aQ]); have tk13 := hT) | (clear tk13; (go_at_call 17; refine (cu.out _ (HI.out.below H.out.below (Nat.le_refl _)) (HK.out.below H.out.below hkp)).mono ?_; rintro e _ ⟨rfl, hb⟩; replace H := hidp (H.out.call hb); clear cu; clear hb); (try simp only [Act.put, aQ]); have tk14 := hT) | (clear tk14; (refine Mm.new rtH H (some 7) rfl rfl rfl ?_; clear H; intro b7 _ H nw; clear nw); (try simp only [Act.put, aQ]); have tk15 := hT) | (clear tk15; (refine Mm.put0 rtH H rfl (.tmp 7) (.tmp 40) (u8s UU) rfl rfl rfl hU8.out (u8_one _) rfl ?_; intro _ H2 st; clear st H; have H := H2; clear H2); (try simp only [Act.put, aQ]); have tk16 := hT) | (clear tk16; (refine Mm.get1 rtHd H rfl (.tmp 5) rfl rfl (Hd.len (rfl : h5.p.length = 32)) ?_); (try simp only [Act.put, aQ]); have tk17 := hT) | (clear tk17; (go_at_call 35; refine (cs.out _ br H.out.at2 (HI.out.below H.out.below (Nat.le_refl _)) (HK.out.below H.out.below hkp)).mono ?_; rintro e _ ⟨rfl, hr, ha⟩; replace H := (show Hid (Mm.M w.heap.size w _ ([⟨b7, 25, (u8s UU)⟩, ⟨b5, 53, h5.row⟩, ⟨br, 75, [.string S0, .int .i64 1, .int .i64 1]⟩, ⟨b2, 23, [.string ⟨#[115]⟩, .int .i64 1, .int .i64 0]⟩, ⟨b1, 27, e5.row⟩])) from hidp (rgAt H.out 2 rfl hr ha)); clear hr ha cs); (try simp only [Act.put, aQ]); have tk18 := hT) | (clear tk18; (refine Mm.new rtHd H (some 9) rfl rfl rfl ?_; clear H; intro b9 _ H nw; clear nw); (try simp only [Act.put, aQ]); have tk19 := hT) | (clear tk19; (refine Mm.put0 rtHd H rfl (.tmp 9) (.tmp 46) (f5 G).row rfl rfl rfl (Hd.len (rfl : (f5 G).p.length = 32)) (Hd.one (f5 G)) (Hd.len (rfl : zHd.p.length = 32)) ?_; intro _ H2 st; clear st H; have H := H2; clear H2); (try simp only [Act.put, aQ]); have tk20 := hT) | (clear tk20; (go_at_call 61; refine (cr.out _ br H.out.at3 (HK.out.below H.out.below hkp)).mono ?_; rintro e _ ⟨rfl, hb⟩; replace H := hidp (H.out.call hb); clear cr; clear hb); (try simp only [Act.put, aQ]); have tk21 := hT) | (clear tk21; (refine wpL_bldG rfl _ _ _ (.tmp 49) rfl 2 9 1 R rfl rfl rfl rfl hRl.out ?_); (try simp only [Act.put, aQ]); have tk22 := hT) | (clear tk22; (refine Rw.wpL_bs1R rwG rfl (.tmp 50) rfl (Gr.row ⟨2, 0, 9, 1, R⟩) rfl (Gr.len hRl.out) ?_; intro bg _ nw; replace H := hidp (H.out.new nw); clear nw); (try simp only [Act.put, aQ]); have tk23 := hT) | (clear tk23; (refine Mm.get1 rtHd H rfl (.tmp 9) rfl rfl (Hd.len (rfl : (f5 G).p.length = 32)) ?_); (try simp only [Act.put, aQ]); have tk24 := hT) | (clear tk24; (go_at_call 23; refine (cb.out _ (HI.out.below H.out.below (Nat.le_refl _))).mono ?_; rintro e _ ⟨rfl, hb⟩; replace H := hidp (H.out.call hb); clear cb; clear hb); (try simp only [Act.put, aQ]); have tk25 := hT) | (clear tk25; (go_at_call 25; refine (cp.out _ (HI.out.below H.out.below (Nat.le_refl _))).mono ?_; rintro e _ ⟨rfl, hb⟩; replace H := hidp (H.out.call hb); clear cp; clear hb); (try simp only [Act.put, aQ]); have tk26 := hT) | (clear tk26; (refine Mm.new rtHd H (some 14) rfl rfl rfl ?_; clear H; intro b14 _ H nw; clear nw); (try simp only [Act.put, aQ]); have tk27 := hT) | (clear tk27; (refine Mm.put0 rtHd H rfl (.tmp 14) (.tmp 60) (f5 G).row rfl rfl rfl (Hd.len (rfl : (f5 G).p.length = 32)) (Hd.one (f5 G)) (Hd.len (rfl : zHd.p.length = 32)) ?_; intro _ H2 st; clear st H; have H := H2; clear H2); (try simp only [Act.put, aQ]); have tk28 := hT) | (clear tk28; (go_at_call 27; refine (cd.out _ (HI.out.below H.out.below (Nat.le_refl _))).mono ?_; rintro e _ ⟨rfl, hb⟩; replace H := hidp (H.out.call hb); clear cd; clear hb); (try simp only [Act.put, aQ]); have tk29 := hT) | (clear tk29; (refine Mm.new rtHd H (some 16) rfl rfl rfl ?_; clear H; intro b16 _ H nw; clear nw); (try simp only [Act.put, aQ]); have tk30 := hT) | (clear tk30; (refine Mm.put0 rtHd H rfl (.tmp 16) (.tmp 65) zHd.row rfl rfl rfl (Hd.len (rfl : zHd.p.length = 32)) (Hd.one zHd) (Hd.len (rfl : zHd.p.length = 32)) ?_; intro _ H2 st; clear st H; have H := H2; clear H2); (try simp only [Act.put, aQ]); have tk31 := hT) | (clear tk31; (refine Mm.get3 rtHd H rfl (.tmp 9) rfl rfl (Hd.len (rfl : (f5 G).p.length = 32)) ?_); (try simp only [Act.put, aQ]); have tk32 := hT) | (clear tk32; (go_at_call 33; refine (cv1.out _ _ (gs_one hRl.out H.out.at2) (HI.out.below H.out.below (Nat.le_refl _)) (HK.out.below H.out.below hkp)).mono ?_; rintro e _ ⟨rfl, hb⟩; replace H := hidp (H.out.call hb); clear cv1; clear hb); (try simp only [Act.put, aQ]); have tk33 := hT) | (clear tk33; (refine Mm.putF3 H rfl 3 (.tmp 70) (.const (.int .i64 2)) 1 (.int .i64 2) rfl rfl rfl (by kernel_rfl) rfl (by rw [Hd.len (rfl : (f5 G).p.length = 32)]; decide) ?_; intro _ H2 st; clear st H; rw [set51] at H2; have H := H2; clear H2); (try simp only [Act.put, aQ]); have tk34 := hT) | (clear tk34; (refine Mm.get5 rtHd H rfl (.tmp 5) rfl rfl (Hd.len (rfl : h5.p.length = 32)) ?_); (try simp only [Act.put, aQ]); have tk35 := hT) | (clear tk35; (refine Mm.get4 rtH H rfl (.tmp 7) rfl rfl hU8.out ?_); (try simp only [Act.put, aQ]); have tk36 := hT) | (clear tk36; (refine Rt.wpL_build rfl 53 _ rfl h5.row (Eq.trans (by kernel_rfl) (built_hd ⟨#[33, 104, 97, 108, 108, 58, 48]⟩ 1 5 UU rfl)) ?_); (try simp only [Act.put, aQ]); have tk37 := hT) | (clear tk37; (refine wpL_mid rfl (.tmp 96) rfl b14 3 UU rfl rfl (hd_mid (x := f5 G) H.out.at1) ?_); (try simp only [Act.put, aQ]); have tk38 := hT) | (clear tk38; (refine Mm.get4 rtH H rfl (.tmp 7) rfl rfl hU8.out ?_); (try simp only [Act.put, aQ]); have tk39 := hT) | (clear tk39; (refine Mm.ld1 naI H rfl (.tmp 102) 2 (.int .i64 5) rfl rfl rfl ?_); (try simp only [Act.put, aQ]); have tk40 := hT) | (clear tk40; (refine Mm.get3 rtHd H rfl (.tmp 9) rfl rfl (Hd.len (rfl : (f6 G).p.length = 32)) ?_); (try simp only [Act.put, aQ]); have tk41 := hT) | (clear tk41; (go_at_call 33; refine (cv2.out _ _ (gs_one hRl.out H.out.at2) (HI.out.below H.out.below (Nat.le_refl _)) (HK.out.below H.out.below hkp)).mono ?_; rintro e _ ⟨rfl, hb⟩; replace H := hidp (H.out.call hb); clear cv2; clear hb); (try simp only [Act.put, aQ]); have tk42 := hT) | (clear tk42; (refine Rt.wpL_build rfl 53 _ rfl zHd.row (by kernel_rfl) ?_); (try simp only [Act.put, aQ]); have tk43 := hT) | (clear tk43; (go_at_call 31; refine (cc.out _ (HI.out.below H.out.below (Nat.le_refl _))).mono ?_; rintro e _ ⟨rfl, hb⟩; replace H := hidp (H.out.call hb); clear cc; clear hb); (try simp only [Act.put, aQ]); have tk44 := hT))
 try clear tk44
 go_ret
 exact ⟨rfl, H.out.below⟩
end Go.Proofs.YtbgooppmhgaicaaGreatDoor.Hd
