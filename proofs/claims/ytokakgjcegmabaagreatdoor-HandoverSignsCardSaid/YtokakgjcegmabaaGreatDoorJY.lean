import Derived.Test.YtokakgjcegmabaaGreatDoorJS2
import Derived.Test.YtokakgjcegmabaaGreatDoorJR
set_option linter.unusedVariables false
set_option linter.unusedSimpArgs false
set_option maxHeartbeats 64000000
set_option maxRecDepth 100000
namespace Go.Proofs.YtokakgjcegmabaaGreatDoor.Ho
open Go.RowKit
open List (getElem_toArray getElem_cons_zero getElem_cons_succ setIfInBounds_toArray set_cons_zero set_cons_succ)
open En (rtDR ret_rrv hat_below)
theorem rtK : Rt.RT Tryz.prog 23 3 [.string ⟨#[]⟩, .int .i64 0, .int .i64 0] := ⟨rfl, .inl ⟨_, Tryz.underlying23⟩, by kernel_rfl⟩
theorem eqin_ky (W : World) (s : ByteArray) (a b : Int) :
 (Op.equalIn 10000 23 (.agg #[.string s, .int .i64 a, .int .i64 b]) (.agg #[.string s, .int .i64 a, .int .i64 b])).run Tryz.prog W = .ok true W := by
 have ht : Tryz.prog.underlying 23 = some (.struct (Tryz.prog.fieldsOf 23)) := by kernel_rfl
 have hp : Tryz.prog.stoodInHeld 23 = false := by kernel_rfl
 have hu := Tryz.underlying23
 have hus := Tryz.underlying9
 have hui := Tryz.underlying3
 rw [run_equalIn_agg W 9999 _ _ _ ht hp]
 unfold Program.fieldsOf
 rw [hu]
 go_simp
theorem guard_ky : Tryz.prog.eqGuardType Tryz.prog.depth 23 = false := by kernel_rfl
theorem rowKY : Tryz.prog.underlying 23 = some (.struct (Tryz.prog.fieldsOf 23)) := by kernel_rfl
theorem sizeKY : (Tryz.prog.info? 23).map (·.size) = some 3 := by kernel_rfl
section
variable {ops : Array Oper} {Q : Exit → Act → World → Prop} {S : World → Prop} {k : Nat} {o : Oper} {s : Scr} {a : Act} {w : World}
theorem s_eqKy (ho : ops[k]? = some o) (hw : Region.wanted o (yielded ops a.tmps) = true) (x y : Operand) (u : TypeId) (hop : o.op = .binOp .eql 23 x y u)
 (t : ByteArray) (p q : Int) (hx : a.eval x = .agg #[.string t, .int .i64 p, .int .i64 q]) (hy : a.eval y = .agg #[.string t, .int .i64 p, .int .i64 q]) (h : wpScr Tryz.prog ops Q s S (a.put o.dst (.bool true)) w) : wpScr Tryz.prog ops Q (.take k s) S a w :=
 s_val ho hw (fun w _ => by
  unfold execOp
  simp only [hop, hx, hy, Sem.run_bind, run_eqGuard_agg (P := Tryz.prog) _ _ _ _ _ _ _ guard_ky, run_eql_struct, eqin_ky w t p q, Result.andThen_ok, Sem.run_pure]) h
theorem guard_de : Tryz.prog.eqGuardType Tryz.prog.depth 26 = false := by kernel_rfl
theorem eqin_de (W : World) (x : De) : (Op.equalIn 10000 26 (.agg x.row.toArray) (.agg x.row.toArray)).run Tryz.prog W = .ok true W := by
 have := eqin_deal W x.k x.k x.r x.r x.g x.g x.e x.e x.i x.i x.h x.h x.n x.n
 rw [eqD_self] at this; exact this
theorem s_eqDe (ho : ops[k]? = some o) (hw : Region.wanted o (yielded ops a.tmps) = true) (x y : Operand) (u : TypeId) (hop : o.op = .binOp .eql 26 x y u)
 (e : De) (hx : a.eval x = .agg e.row.toArray) (hy : a.eval y = .agg e.row.toArray) (h : wpScr Tryz.prog ops Q s S (a.put o.dst (.bool true)) w) : wpScr Tryz.prog ops Q (.take k s) S a w :=
 s_val ho hw (fun w _ => by
  unfold execOp
  simp only [hop, hx, hy, Sem.run_bind, run_eqGuard_agg (P := Tryz.prog) _ _ _ _ _ _ _ guard_de, run_eql_struct, eqin_de w e, Result.andThen_ok, Sem.run_pure]) h
theorem s_ldKy (ho : ops[k]? = some o) (hw : Region.wanted o (yielded ops a.tmps) = true) (x : Operand) (hop : o.op = .load 23 x) (b : Nat) (t : ByteArray) (p q : Int) (v : Value)
 (hx : a.eval x = .pointer (some ⟨b, 0, none⟩)) (hc : ∀ w, S w → Arr w b 39 [.string t, .int .i64 p, .int .i64 q, v]) (h : wpScr Tryz.prog ops Q s S (a.put o.dst (.agg #[.string t, .int .i64 p, .int .i64 q])) w) : wpScr Tryz.prog ops Q (.take k s) S a w :=
 s_val ho hw (fun w hS => by
  have hr := (hc w hS).range
  rw [show [Value.string t, .int .i64 p, .int .i64 q, v] = [Value.string t, .int .i64 p, .int .i64 q] ++ [v] from rfl, rangeAt_app] at hr
  unfold execOp
  simp only [hop, hx, Instr.loadAt, Instr.sureAddr, Sem.run_bind, Sem.run_pure, Result.andThen_ok, run_loadVar_mid w b 0 23 _ _ hr.1 rowKY rfl sizeKY]) h
end
theorem hs_row (S : ByteArray) (h m : Nat) (x : De) (hok : kyOk S h m = true) : ∃ M : Int, hsR S h m x = [.string S, .int .i64 (h : Int), .int .i64 M] := by
 cases hk : dOk x with
 | false => exact ⟨(m : Int), by unfold hsR; rw [hk]; rfl⟩
 | true =>
   by_cases g : sgE S h m = 0
   · have hN : ((m : Nat) : Int) ≠ ((2 ^ ((h : Nat) : Int).toNat : Nat) : Int) := fun e => by
      unfold sgE at g; rw [if_pos hok, if_pos e] at g; cases g
     obtain ⟨g1, -, -⟩ := sg_yes (S := S) (H := h) (N := m) [] hok hN
     exact ⟨(m : Int) + 1, by unfold hsR; rw [hk, if_pos rfl]; unfold rgA; rw [if_pos g]; exact g1⟩
   · exact ⟨(m : Int), by unfold hsR; rw [hk, if_pos rfl]; unfold rgA; rw [if_neg g]⟩
theorem hsV_ok (S : ByteArray) (h m : Nat) (hh : h ≤ 7) (hm : m ≤ 2 ^ h) (hok : kyOk S h m = true) (x : De) (hx : x.ok) : (hsV S h m x).ok := by
 unfold hsV
 split
 · rename_i hg
   have hN : ((m : Nat) : Int) ≠ ((2 ^ ((h : Nat) : Int).toNat : Nat) : Int) := fun e => by
    have := hg.2; unfold sgE at this; rw [if_pos hok, if_pos e] at this; cases this
   obtain ⟨-, g2, -⟩ := sg_yes (S := S) (H := h) (N := m) (dT x).data.toList hok hN
   have hlt : m < 2 ^ h := by rw [Int.toNat_natCast] at hN; omega
   obtain ⟨-, hz, -⟩ := sig_parts (S := S) (dT x).data.toList hh hlt
   have e : sgS S h m (dT x).data.toList = mkS (sigL S.data.toList h m (dT x).data.toList) := by rw [g2]; rfl
   have hg2 : (sgS S h m (dT x).data.toList).size ≤ 140737488351232 := by rw [e, hz]; omega
   exact ⟨hx.1, hx.2.1, hg2⟩
 · exact hx
theorem one_dr {S : ByteArray} {p q : Int} {v : Value} (h : v.oneCell' = true) : ∀ u ∈ [Value.string S, .int .i64 p, .int .i64 q, v], u.oneCell' = true := by
 intro u hu
 simp only [List.mem_cons, List.not_mem_nil, or_false] at hu
 rcases hu with rfl | rfl | rfl | rfl <;> first | rfl | exact h
theorem wp_cut3 {P : Program} {c : Code} {Q : Exit → Act → World → Prop} {a : Act} {w : World} (f : Act → Nat → Nat → Value → Act) (G : Nat → Nat → Value → World → Prop)
 (h1 : c.wp P (fun e a' W => e = .normal ∧ ∃ b d v, a' = f a b d v ∧ G b d v W) a w) (h2 : ∀ b d v W, G b d v W → Q .normal (f a b d v) W) : c.wp P Q a w :=
 wp_mono h1 fun e a' W h => by
  obtain ⟨rfl, b, d, v, rfl, hg⟩ := h
  exact h2 b d v W hg
theorem walk_handoverSigns (w : World) (S : ByteArray) (H0 N0 : Int) (hS : S.size ≤ 140737488351232) (wH : (Lit.int .i64 H0).wf) (wN : (Lit.int .i64 N0).wf) (x : De) (hx : x.ok) (vb : Value) (gs : List Gr) (hv : GsAt w vb gs) (hn : gs.length ≤ 4611686018427387904) (hL : IT w ∧ HT w ∧ KT w) :
 Calls Tryz.prog 3 #[.agg #[.string S, .int .i64 H0, .int .i64 N0], .agg x.row.toArray, vb] w fun e w' => e = .returned (.bool true) ∧ Below w.heap.size w w' := by
 obtain ⟨hI, hT, hK⟩ := hL
 have hkp := hK.pos
 have HI := hidp hI; have HT0 := hidp hT; have HK := hidp hK; clear hI hT hK wH wN hn
 have H := hidp (Mm.M.nil w)
 have HVV := hidp hv
 clear hv
 have ckk := hidp (fun W => rkyCheck_any W S H0 N0)
 have cv1 := hidp (fun W (hg : GsAt W vb gs) h t k => hverify_any W vb gs hg x hx h t k)
 have dv1 := hidp (fun W (hg : GsAt W vb gs) => rverify24_any W vb gs hg x hx)
 obtain ⟨V1, hV1⟩ : ∃ V, hvE gs x = V := ⟨_, rfl⟩
 rw [hV1] at cv1 dv1
 clear hV1
 cases hok : kyOk S H0 N0 with
 | false =>
   rw [show kyE S H0 N0 = 2 from by unfold kyE; rw [hok]; rfl] at ckk
   clear hok hx hS
   go_enter Tryz.func3, Tryz.ntmps3
   have tk0 := hT
   go_wp2_with (first | (clear tk0; (refine Mm.box 23 H rfl (.tmp 0) rfl [.string S, .int .i64 H0, .int .i64 N0] rfl ?_; clear H; intro b4 _ H nw; clear nw); (try simp only [Act.put, aQ]); have tk1 := hT) | (clear tk1; (refine Mm.box 26 H rfl (.tmp 1) rfl x.row rfl ?_; clear H; intro b5 _ H nw; clear nw); (try simp only [Act.put, aQ]); have tk2 := hT) | (clear tk2; (go_at_call 11; refine (lives24_any _ (HI.out.below H.out.below (Nat.le_refl _)) (HT0.out.below H.out.below (Nat.le_refl _)) (HK.out.below H.out.below hkp)).mono ?_; rintro e _ ⟨rfl, hb⟩; replace H := hidp (H.out.call hb); clear hb); (try simp only [Act.put, aQ]); have tk3 := hT) | (clear tk3; (refine Mm.get1 rtK H rfl (.tmp 3) rfl rfl rfl ?_); (try simp only [Act.put, aQ]); have tk4 := hT) | (clear tk4; (go_at_call 12; refine (ckk.out _).mono ?_; rintro e _ ⟨rfl, hb⟩; replace H := hidp (H.out.call hb); clear ckk; clear hb); (try simp only [Act.put, aQ]); have tk5 := hT))
   try clear tk5
   refine Mm.region H (.take 0 (.take 1 (.take 3 (.take 4 (.one 2 (.one 5 (.take 6 (.take 7 .done)))))))) (by kernel_rfl) (by kernel_rfl) (by simp [Scr.depth]) (by kernel_rfl) ?_
   clear H
   intro _ H hb
   clear hb
   iterate 2
    apply s_val
    case ho | hw => rfl
    case hv => intro w hw; go_simp; first | done | rfl
    simp only [Act.put, aP]
    refine Mm.sget0 rtD (fun w h => h) rfl rfl (.tmp 4) rfl rfl rfl ?_
    simp only [Act.put, aP]
   refine Mm.o_callH (v := .int .i64 V1) H (fun W h => h) rfl rfl 13 (#[vb, .agg x.row.toArray]) (by go_simp; first | done | rfl) (cv1.out _ (HVV.out.to H.out.below) (HI.out.below H.out.below (Nat.le_refl _)) (HT0.out.below H.out.below (Nat.le_refl _)) (HK.out.below H.out.below hkp)) ?_
   clear H
   intro _ H hb
   clear hb
   simp only [Act.put, aP]
   refine Mm.o_callH (v := .int .i64 V1) H (fun W h => h) rfl rfl 14 (#[vb, .agg x.row.toArray]) (by go_simp; first | done | rfl) (dv1.out _ (HVV.out.to H.out.below)) ?_
   clear H
   intro _ H hb
   clear hb
   iterate 2
    simp only [Act.put, aP]
    apply s_val
    case ho | hw => rfl
    case hv => intro w hw; go_simp; first | done | rfl
   simp only [Act.put, aP]
   refine NoPanic.normal ?_
   go_wp2
   go_ret
   exact ⟨rfl, H.out.below⟩
 | true =>
   rw [show kyE S H0 N0 = 0 from by unfold kyE; rw [hok]; rfl] at ckk
   by_cases h3 : H0 > 3
   · have e3 : decide (H0 > 3) = true := by simpa using h3
     have n3 : (3 : Int) < H0 := h3
     clear hok hx hS h3
     go_enter Tryz.func3, Tryz.ntmps3
     have tk0 := hT
     go_wp2_with (first | (clear tk0; (refine Mm.box 23 H rfl (.tmp 0) rfl [.string S, .int .i64 H0, .int .i64 N0] rfl ?_; clear H; intro b4 _ H nw; clear nw); (try simp only [Act.put, aQ]); have tk1 := hT) | (clear tk1; (refine Mm.box 26 H rfl (.tmp 1) rfl x.row rfl ?_; clear H; intro b5 _ H nw; clear nw); (try simp only [Act.put, aQ]); have tk2 := hT) | (clear tk2; (go_at_call 11; refine (lives24_any _ (HI.out.below H.out.below (Nat.le_refl _)) (HT0.out.below H.out.below (Nat.le_refl _)) (HK.out.below H.out.below hkp)).mono ?_; rintro e _ ⟨rfl, hb⟩; replace H := hidp (H.out.call hb); clear hb); (try simp only [Act.put, aQ]); have tk3 := hT) | (clear tk3; (refine Mm.get1 rtK H rfl (.tmp 3) rfl rfl rfl ?_); (try simp only [Act.put, aQ]); have tk4 := hT) | (clear tk4; (go_at_call 12; refine (ckk.out _).mono ?_; rintro e _ ⟨rfl, hb⟩; replace H := hidp (H.out.call hb); clear ckk; clear hb); (try simp only [Act.put, aQ]); have tk5 := hT) | (clear tk5; (refine Mm.ld1 naI H rfl (.tmp 20) 1 (.int .i64 H0) rfl rfl rfl ?_); (try simp only [Act.put, aQ]); have tk6 := hT))
     try clear tk6
     refine Mm.region H (.take 0 (.take 1 (.take 3 (.take 4 (.one 2 (.one 5 (.take 6 (.take 7 .done)))))))) (by kernel_rfl) (by kernel_rfl) (by simp [Scr.depth]) (by kernel_rfl) ?_
     clear H
     intro _ H hb
     clear hb
     iterate 2
      apply s_val
      case ho | hw => rfl
      case hv => intro w hw; go_simp; first | done | rfl
      simp only [Act.put, aP]
      refine Mm.sget0 rtD (fun w h => h) rfl rfl (.tmp 4) rfl rfl rfl ?_
      simp only [Act.put, aP]
     refine Mm.o_callH (v := .int .i64 V1) H (fun W h => h) rfl rfl 13 (#[vb, .agg x.row.toArray]) (by go_simp; first | done | rfl) (cv1.out _ (HVV.out.to H.out.below) (HI.out.below H.out.below (Nat.le_refl _)) (HT0.out.below H.out.below (Nat.le_refl _)) (HK.out.below H.out.below hkp)) ?_
     clear H
     intro _ H hb
     clear hb
     simp only [Act.put, aP]
     refine Mm.o_callH (v := .int .i64 V1) H (fun W h => h) rfl rfl 14 (#[vb, .agg x.row.toArray]) (by go_simp; first | done | rfl) (dv1.out _ (HVV.out.to H.out.below)) ?_
     clear H
     intro _ H hb
     clear hb
     iterate 2
      simp only [Act.put, aP]
      apply s_val
      case ho | hw => rfl
      case hv => intro w hw; go_simp; first | done | rfl
     simp only [Act.put, aP]
     refine NoPanic.normal ?_
     go_wp2
     go_ret
     exact ⟨rfl, H.out.below⟩
   · obtain ⟨⟨s1, s2⟩, ⟨q1, q2⟩, q3, q4⟩ := kyOk_parts hok
     obtain ⟨h, rfl⟩ : ∃ h : Nat, H0 = h := ⟨H0.toNat, by omega⟩
     obtain ⟨m, rfl⟩ : ∃ m : Nat, N0 = m := ⟨N0.toNat, by omega⟩
     have e3 : decide ((h : Int) > 3) = false := by simpa using h3
     have n3 : ¬ (3 : Int) < (h : Int) := h3
     have n3' : decide (3 < h) = false := by simp; omega
     have hm0 : m ≤ 2 ^ h := by rw [Int.toNat_natCast] at q4; exact_mod_cast q4
     have ck := hidp (fun W => kmake_yes W S h m (by omega) hok)
     have cs := hidp (fun W br (ha : Arr W br 118 [.string S, .int .i64 (h : Int), .int .i64 (m : Int)]) hi ht hk => hsign_any W br S h m hok ha x hx hi ht hk)
     have cm := hidp (show ∀ W, Calls Tryz.prog 18 #[.agg #[.string S, .int .i64 (h : Int), .int .i64 (m : Int)]] W (fun e w' => ∃ r, e = .returned r ∧ (∃ v, r = .agg #[.string S, .int .i64 (h : Int), .int .i64 (m : Int), v] ∧ HsAt w' v (leafL S.data.toList h) ∧ v.oneCell' = true) ∧ Below W.heap.size W w') from fun W => (rmake_any W S h m (by omega) (by omega)).mono fun e w' ⟨v, h1, h2, h4⟩ => by
      obtain ⟨a, c, hf⟩ := h2.hs.form
      exact ⟨_, h1, ⟨v, rfl, h2.hs, by rw [hf]; rfl⟩, h4⟩)
     have cd := hidp (fun W v (hs : HsAt W v (leafL S.data.toList h)) => rsign24_any W S h m hok v hs x hx)
     obtain ⟨M, hM⟩ := hs_row S h m x hok
     have hXk := hsV_ok S h m (by omega) hm0 hok x hx
     have ckr := hidp (fun W br (ha : Arr W br 118 [.string S, .int .i64 (h : Int), .int .i64 M]) => krKey_any W br S h M ha)
     have cv2 := hidp (fun W (hg : GsAt W vb gs) h5 t k => hverify_any W vb gs hg (hsV S h m x) hXk h5 t k)
     have dv2 := hidp (fun W (hg : GsAt W vb gs) => rverify24_any W vb gs hg (hsV S h m x) hXk)
     obtain ⟨V2, hV2⟩ : ∃ V, hvE gs (hsV S h m x) = V := ⟨_, rfl⟩
     rw [hV2] at cv2 dv2
     obtain ⟨X, hX⟩ : ∃ X, hsV S h m x = X := ⟨_, rfl⟩
     obtain ⟨E1, hE1⟩ : ∃ E, hsE S h m x = E := ⟨_, rfl⟩
     rw [hM, hX, hE1] at cs cd
     rw [hX] at cv2 dv2 hXk
     clear hok hx hS h3 s1 s2 q1 q2 q3 q4 hm0 hM hX hE1 hV2 hXk
     go_enter Tryz.func3, Tryz.ntmps3
     have tk0 := hT
     go_upto_region 9 with (first | (clear tk0; (refine Mm.box 23 H rfl (.tmp 0) rfl [.string S, .int .i64 (h : Int), .int .i64 (m : Int)] rfl ?_; clear H; intro b4 _ H nw; clear nw); (try simp only [Act.put, aQ]); have tk1 := hT) | (clear tk1; (refine Mm.box 26 H rfl (.tmp 1) rfl x.row rfl ?_; clear H; intro b5 _ H nw; clear nw); (try simp only [Act.put, aQ]); have tk2 := hT) | (clear tk2; (go_at_call 11; refine (lives24_any _ (HI.out.below H.out.below (Nat.le_refl _)) (HT0.out.below H.out.below (Nat.le_refl _)) (HK.out.below H.out.below hkp)).mono ?_; rintro e _ ⟨rfl, hb⟩; replace H := hidp (H.out.call hb); clear hb); (try simp only [Act.put, aQ]); have tk3 := hT) | (clear tk3; (refine Mm.get1 rtK H rfl (.tmp 3) rfl rfl rfl ?_); (try simp only [Act.put, aQ]); have tk4 := hT) | (clear tk4; (go_at_call 12; refine (ckk.out _).mono ?_; rintro e _ ⟨rfl, hb⟩; replace H := hidp (H.out.call hb); clear ckk; clear hb); (try simp only [Act.put, aQ]); have tk5 := hT) | (clear tk5; (refine Mm.ld1 naI H rfl (.tmp 20) 1 (.int .i64 (h : Int)) rfl rfl rfl ?_); (try simp only [Act.put, aQ]); have tk6 := hT) | (clear tk6; (refine Mm.get1 rtK H rfl (.tmp 3) rfl rfl rfl ?_); (try simp only [Act.put, aQ]); have tk7 := hT) | (clear tk7; (go_at_call 15; refine (ck.out _).mono ?_; rintro e _ ⟨br, rfl, hring, hge, hb⟩; replace H := hidp (H.out.add (m := 0) hb hge hring); clear hring hge hb ck); (try simp only [Act.put, aQ]); have tk8 := hT) | (clear tk8; (refine Mm.get1 rtD H rfl (.tmp 4) rfl rfl rfl ?_); (try simp only [Act.put, aQ]); have tk9 := hT) | (clear tk9; (go_at_call 16; refine (cs.out _ br H.out.at0 (HI.out.below H.out.below (Nat.le_refl _)) (HT0.out.below H.out.below (Nat.le_refl _)) (HK.out.below H.out.below hkp)).mono ?_; rintro e _ ⟨rfl, hr, ha⟩; replace H := (show Hid (Mm.M w.heap.size w _ ([⟨br, 118, [.string S, .int .i64 (h : Int), .int .i64 M]⟩, ⟨b5, 26, x.row⟩, ⟨b4, 23, [.string S, .int .i64 (h : Int), .int .i64 (m : Int)]⟩])) from hidp (rgAt H.out 0 rfl hr ha)); clear hr ha cs); (try simp only [Act.put, aQ]); have tk10 := hT) | (clear tk10; (refine Mm.new rtD H (some 9) rfl rfl rfl ?_; clear H; intro b11 _ H nw; clear nw); (try simp only [Act.put, aQ]); have tk11 := hT) | (clear tk11; (refine Mm.put0 rtD H rfl (.tmp 9) (.tmp 46) X.row rfl rfl rfl rfl (De.one X) rfl ?_; intro _ H2 st; clear st H; have H := H2; clear H2); (try simp only [Act.put, aQ]); have tk12 := hT))
     try clear tk12
     refine wp_cut3 (fun a b13 b14 v => (((((((((((a.put (some 49) (.agg #[.string S, .int .i64 (h : Int), .int .i64 (m : Int)])).put (some 50) (.agg #[.string S, .int .i64 (h : Int), .int .i64 (m : Int), v])).put (some 51) (.agg x.row.toArray)).put (some 52) (.tuple #[.agg #[.string S, .int .i64 (h : Int), .int .i64 M, v], .agg X.row.toArray, .int .i64 E1])).put (some 48) (.tuple #[.agg #[.string S, .int .i64 (h : Int), .int .i64 M, v], .agg X.row.toArray, .int .i64 E1])).put (some 53) (.agg #[.string S, .int .i64 (h : Int), .int .i64 M, v])).put (some 54) (.agg X.row.toArray)).put (some 55) (.int .i64 E1)).put (some 11) (.pointer (some ⟨b13, 0, none⟩))).put (some 12) (.pointer (some ⟨b14, 0, none⟩))).put (some 13) (.int .i64 E1))) (fun b13 b14 v W => v.oneCell' = true ∧ (Hid (Mm.M w.heap.size w W [⟨b14, 26, X.row⟩, ⟨b13, 39, [.string S, .int .i64 (h : Int), .int .i64 M, v]⟩, ⟨b11, 26, X.row⟩, ⟨br, 118, [.string S, .int .i64 (h : Int), .int .i64 M]⟩, ⟨b5, 26, x.row⟩, ⟨b4, 23, [.string S, .int .i64 (h : Int), .int .i64 (m : Int)]⟩]) ∨ Hid (Mm.M w.heap.size w W [⟨b13, 39, [.string S, .int .i64 (h : Int), .int .i64 M, v]⟩, ⟨b14, 26, X.row⟩, ⟨b11, 26, X.row⟩, ⟨br, 118, [.string S, .int .i64 (h : Int), .int .i64 M]⟩, ⟨b5, 26, x.row⟩, ⟨b4, 23, [.string S, .int .i64 (h : Int), .int .i64 (m : Int)]⟩]))) ?_ ?_
     · refine Sl.regionS [⟨b11, 26, X.row⟩, ⟨br, 118, [.string S, .int .i64 (h : Int), .int .i64 M]⟩, ⟨b5, 26, x.row⟩, ⟨b4, 23, [.string S, .int .i64 (h : Int), .int .i64 (m : Int)]⟩] (fun W h => h.sub (by simp)) H (.take 0 (.take 2 (.three 1 (.three 3 (.take 4 (.take 5 (.take 6 (.take 7 (.two 8 (.one 9 (.one 10 (.one 11 (.take 12 .done)))) 9 (.one 8 (.one 10 (.one 11 (.take 12 .done))))))))) 8 (.two 3 (.take 4 (.take 5 (.take 6 (.take 7 (.one 9 (.one 10 (.one 11 (.take 12 .done)))))))) 9 (.one 3 (.take 4 (.take 5 (.take 6 (.take 7 (.one 10 (.one 11 (.take 12 .done))))))))) 9 (.two 3 (.take 4 (.take 5 (.take 6 (.take 7 (.one 8 (.one 10 (.one 11 (.take 12 .done)))))))) 8 (.one 3 (.take 4 (.take 5 (.take 6 (.take 7 (.one 10 (.one 11 (.take 12 .done)))))))))) 8 (.two 1 (.two 3 (.take 4 (.take 5 (.take 6 (.take 7 (.one 9 (.one 10 (.one 11 (.take 12 .done)))))))) 9 (.one 3 (.take 4 (.take 5 (.take 6 (.take 7 (.one 10 (.one 11 (.take 12 .done))))))))) 9 (.one 1 (.one 3 (.take 4 (.take 5 (.take 6 (.take 7 (.one 10 (.one 11 (.take 12 .done)))))))))) 9 (.two 1 (.two 3 (.take 4 (.take 5 (.take 6 (.take 7 (.one 8 (.one 10 (.one 11 (.take 12 .done)))))))) 8 (.one 3 (.take 4 (.take 5 (.take 6 (.take 7 (.one 10 (.one 11 (.take 12 .done))))))))) 8 (.one 1 (.one 3 (.take 4 (.take 5 (.take 6 (.take 7 (.one 10 (.one 11 (.take 12 .done))))))))))))) (by kernel_rfl) (by kernel_rfl) (by simp [Scr.depth]) (by kernel_rfl) ?_
       clear H
       intro _ H hb
       clear hb
       refine Mm.sget3 rtK (fun w h => h) rfl rfl (.tmp 3) rfl rfl rfl ?_
       simp only [Act.put, aP]
       refine Mm.sget2 rtD (fun w h => h) rfl rfl (.tmp 4) rfl rfl rfl ?_
       simp only [Act.put, aP]
       refine ⟨?_, ?_, ?_⟩
       · refine Mm.o_callX H (fun W h => h.sub (by simp)) rfl rfl 18 (#[.agg #[.string S, .int .i64 (h : Int), .int .i64 (m : Int)]]) (by go_simp; first | done | rfl) (cm.out _) ?_
         clear H
         intro r9 _ H hr hb
         obtain ⟨v, rfl, hsv, ho1⟩ := hr
         have HM := hidp hsv
         clear hsv
         clear hb
         simp only [Act.put, aP]
         refine ⟨?_, ?_, ?_⟩
         · refine Mm.o_callH (v := .tuple #[.agg #[.string S, .int .i64 (h : Int), .int .i64 M, v], .agg X.row.toArray, .int .i64 E1]) H (fun W h => h.sub (by simp)) rfl rfl 17 (#[.agg #[.string S, .int .i64 (h : Int), .int .i64 (m : Int), v], .agg x.row.toArray]) (by go_simp; first | done | rfl) (cd.out _ v HM.out) ?_
           clear H
           intro _ H hb
           replace HM := hidp (hat_below HM.out hb); clear hb
           iterate 4
            simp only [Act.put, aP]
            apply s_val
            case ho | hw => rfl
            case hv => intro w hw; go_simp; first | done | rfl
           simp only [Act.put, aP]
           refine ⟨?_, ?_⟩
           · refine Mm.o_newH rtDR H (fun W h => h.sub (by simp)) rfl rfl rfl ?_
             clear H
             intro b13 _ H nw
             have hb := nw.below
             replace HM := hidp (hat_below HM.out hb); clear hb nw
             simp only [Act.put, aP]
             refine Mm.o_newH rtD H (fun W h => h.sub (by simp)) rfl rfl rfl ?_
             clear H
             intro b14 _ H nw
             have hb := nw.below
             replace HM := hidp (hat_below HM.out hb); clear hb nw
             simp only [Act.put, aP]
             refine Mm.oput1 rtDR H [.string S, .int .i64 (h : Int), .int .i64 M, v] (fun W h => h.sub (by simp)) rfl rfl (.tmp 11) (.tmp 53) rfl rfl rfl rfl (one_dr ho1) rfl ?_
             intro _ H2 st
             clear st H
             have H := H2
             clear H2
             simp only [Act.put, aP]
             refine Mm.oput0 rtD H X.row (fun W h => h.sub (by simp)) rfl rfl (.tmp 12) (.tmp 54) rfl rfl rfl rfl (De.one X) rfl ?_
             intro _ H2 st
             clear st H
             have H := H2
             clear H2
             simp only [Act.put, aP]
             apply s_val
             case ho | hw => rfl
             case hv => intro w hw; go_simp; first | done | rfl
             simp only [Act.put, aP]
             refine NoPanic.normal ?_
             exact ⟨rfl, b13, b14, v, rfl, ho1, .inl H⟩
           · refine Mm.o_newH rtD H (fun W h => h.sub (by simp)) rfl rfl rfl ?_
             clear H
             intro b14 _ H nw
             have hb := nw.below
             replace HM := hidp (hat_below HM.out hb); clear hb nw
             simp only [Act.put, aP]
             refine Mm.o_newH rtDR H (fun W h => h.sub (by simp)) rfl rfl rfl ?_
             clear H
             intro b13 _ H nw
             have hb := nw.below
             replace HM := hidp (hat_below HM.out hb); clear hb nw
             simp only [Act.put, aP]
             refine Mm.oput0 rtDR H [.string S, .int .i64 (h : Int), .int .i64 M, v] (fun W h => h.sub (by simp)) rfl rfl (.tmp 11) (.tmp 53) rfl rfl rfl rfl (one_dr ho1) rfl ?_
             intro _ H2 st
             clear st H
             have H := H2
             clear H2
             simp only [Act.put, aP]
             refine Mm.oput1 rtD H X.row (fun W h => h.sub (by simp)) rfl rfl (.tmp 12) (.tmp 54) rfl rfl rfl rfl (De.one X) rfl ?_
             intro _ H2 st
             clear st H
             have H := H2
             clear H2
             simp only [Act.put, aP]
             apply s_val
             case ho | hw => rfl
             case hv => intro w hw; go_simp; first | done | rfl
             simp only [Act.put, aP]
             refine NoPanic.normal ?_
             exact ⟨rfl, b13, b14, v, rfl, ho1, .inr H⟩
         · refine Mm.o_newH rtDR H (fun W h => h.sub (by simp)) rfl rfl rfl ?_
           clear H
           intro b13 _ H nw
           have hb := nw.below
           replace HM := hidp (hat_below HM.out hb); clear hb nw
           simp only [Act.put, aP]
           refine ⟨?_, ?_⟩
           · refine Mm.o_callH (v := .tuple #[.agg #[.string S, .int .i64 (h : Int), .int .i64 M, v], .agg X.row.toArray, .int .i64 E1]) H (fun W h => h.sub (by simp)) rfl rfl 17 (#[.agg #[.string S, .int .i64 (h : Int), .int .i64 (m : Int), v], .agg x.row.toArray]) (by go_simp; first | done | rfl) (cd.out _ v HM.out) ?_
             clear H
             intro _ H hb
             replace HM := hidp (hat_below HM.out hb); clear hb
             iterate 4
              simp only [Act.put, aP]
              apply s_val
              case ho | hw => rfl
              case hv => intro w hw; go_simp; first | done | rfl
             simp only [Act.put, aP]
             refine Mm.o_newH rtD H (fun W h => h.sub (by simp)) rfl rfl rfl ?_
             clear H
             intro b14 _ H nw
             have hb := nw.below
             replace HM := hidp (hat_below HM.out hb); clear hb nw
             simp only [Act.put, aP]
             refine Mm.oput1 rtDR H [.string S, .int .i64 (h : Int), .int .i64 M, v] (fun W h => h.sub (by simp)) rfl rfl (.tmp 11) (.tmp 53) rfl rfl rfl rfl (one_dr ho1) rfl ?_
             intro _ H2 st
             clear st H
             have H := H2
             clear H2
             simp only [Act.put, aP]
             refine Mm.oput0 rtD H X.row (fun W h => h.sub (by simp)) rfl rfl (.tmp 12) (.tmp 54) rfl rfl rfl rfl (De.one X) rfl ?_
             intro _ H2 st
             clear st H
             have H := H2
             clear H2
             simp only [Act.put, aP]
             apply s_val
             case ho | hw => rfl
             case hv => intro w hw; go_simp; first | done | rfl
             simp only [Act.put, aP]
             refine NoPanic.normal ?_
             exact ⟨rfl, b13, b14, v, rfl, ho1, .inl H⟩
           · refine Mm.o_newH rtD H (fun W h => h.sub (by simp)) rfl rfl rfl ?_
             clear H
             intro b14 _ H nw
             have hb := nw.below
             replace HM := hidp (hat_below HM.out hb); clear hb nw
             simp only [Act.put, aP]
             refine Mm.o_callH (v := .tuple #[.agg #[.string S, .int .i64 (h : Int), .int .i64 M, v], .agg X.row.toArray, .int .i64 E1]) H (fun W h => h.sub (by simp)) rfl rfl 17 (#[.agg #[.string S, .int .i64 (h : Int), .int .i64 (m : Int), v], .agg x.row.toArray]) (by go_simp; first | done | rfl) (cd.out _ v HM.out) ?_
             clear H
             intro _ H hb
             replace HM := hidp (hat_below HM.out hb); clear hb
             iterate 4
              simp only [Act.put, aP]
              apply s_val
              case ho | hw => rfl
              case hv => intro w hw; go_simp; first | done | rfl
             simp only [Act.put, aP]
             refine Mm.oput1 rtDR H [.string S, .int .i64 (h : Int), .int .i64 M, v] (fun W h => h.sub (by simp)) rfl rfl (.tmp 11) (.tmp 53) rfl rfl rfl rfl (one_dr ho1) rfl ?_
             intro _ H2 st
             clear st H
             have H := H2
             clear H2
             simp only [Act.put, aP]
             refine Mm.oput0 rtD H X.row (fun W h => h.sub (by simp)) rfl rfl (.tmp 12) (.tmp 54) rfl rfl rfl rfl (De.one X) rfl ?_
             intro _ H2 st
             clear st H
             have H := H2
             clear H2
             simp only [Act.put, aP]
             apply s_val
             case ho | hw => rfl
             case hv => intro w hw; go_simp; first | done | rfl
             simp only [Act.put, aP]
             refine NoPanic.normal ?_
             exact ⟨rfl, b13, b14, v, rfl, ho1, .inl H⟩
         · refine Mm.o_newH rtD H (fun W h => h.sub (by simp)) rfl rfl rfl ?_
           clear H
           intro b14 _ H nw
           have hb := nw.below
           replace HM := hidp (hat_below HM.out hb); clear hb nw
           simp only [Act.put, aP]
           refine ⟨?_, ?_⟩
           · refine Mm.o_callH (v := .tuple #[.agg #[.string S, .int .i64 (h : Int), .int .i64 M, v], .agg X.row.toArray, .int .i64 E1]) H (fun W h => h.sub (by simp)) rfl rfl 17 (#[.agg #[.string S, .int .i64 (h : Int), .int .i64 (m : Int), v], .agg x.row.toArray]) (by go_simp; first | done | rfl) (cd.out _ v HM.out) ?_
             clear H
             intro _ H hb
             replace HM := hidp (hat_below HM.out hb); clear hb
             iterate 4
              simp only [Act.put, aP]
              apply s_val
              case ho | hw => rfl
              case hv => intro w hw; go_simp; first | done | rfl
             simp only [Act.put, aP]
             refine Mm.o_newH rtDR H (fun W h => h.sub (by simp)) rfl rfl rfl ?_
             clear H
             intro b13 _ H nw
             have hb := nw.below
             replace HM := hidp (hat_below HM.out hb); clear hb nw
             simp only [Act.put, aP]
             refine Mm.oput0 rtDR H [.string S, .int .i64 (h : Int), .int .i64 M, v] (fun W h => h.sub (by simp)) rfl rfl (.tmp 11) (.tmp 53) rfl rfl rfl rfl (one_dr ho1) rfl ?_
             intro _ H2 st
             clear st H
             have H := H2
             clear H2
             simp only [Act.put, aP]
             refine Mm.oput1 rtD H X.row (fun W h => h.sub (by simp)) rfl rfl (.tmp 12) (.tmp 54) rfl rfl rfl rfl (De.one X) rfl ?_
             intro _ H2 st
             clear st H
             have H := H2
             clear H2
             simp only [Act.put, aP]
             apply s_val
             case ho | hw => rfl
             case hv => intro w hw; go_simp; first | done | rfl
             simp only [Act.put, aP]
             refine NoPanic.normal ?_
             exact ⟨rfl, b13, b14, v, rfl, ho1, .inr H⟩
           · refine Mm.o_newH rtDR H (fun W h => h.sub (by simp)) rfl rfl rfl ?_
             clear H
             intro b13 _ H nw
             have hb := nw.below
             replace HM := hidp (hat_below HM.out hb); clear hb nw
             simp only [Act.put, aP]
             refine Mm.o_callH (v := .tuple #[.agg #[.string S, .int .i64 (h : Int), .int .i64 M, v], .agg X.row.toArray, .int .i64 E1]) H (fun W h => h.sub (by simp)) rfl rfl 17 (#[.agg #[.string S, .int .i64 (h : Int), .int .i64 (m : Int), v], .agg x.row.toArray]) (by go_simp; first | done | rfl) (cd.out _ v HM.out) ?_
             clear H
             intro _ H hb
             replace HM := hidp (hat_below HM.out hb); clear hb
             iterate 4
              simp only [Act.put, aP]
              apply s_val
              case ho | hw => rfl
              case hv => intro w hw; go_simp; first | done | rfl
             simp only [Act.put, aP]
             refine Mm.oput0 rtDR H [.string S, .int .i64 (h : Int), .int .i64 M, v] (fun W h => h.sub (by simp)) rfl rfl (.tmp 11) (.tmp 53) rfl rfl rfl rfl (one_dr ho1) rfl ?_
             intro _ H2 st
             clear st H
             have H := H2
             clear H2
             simp only [Act.put, aP]
             refine Mm.oput1 rtD H X.row (fun W h => h.sub (by simp)) rfl rfl (.tmp 12) (.tmp 54) rfl rfl rfl rfl (De.one X) rfl ?_
             intro _ H2 st
             clear st H
             have H := H2
             clear H2
             simp only [Act.put, aP]
             apply s_val
             case ho | hw => rfl
             case hv => intro w hw; go_simp; first | done | rfl
             simp only [Act.put, aP]
             refine NoPanic.normal ?_
             exact ⟨rfl, b13, b14, v, rfl, ho1, .inr H⟩
       · refine Mm.o_newH rtDR H (fun W h => h.sub (by simp)) rfl rfl rfl ?_
         clear H
         intro b13 _ H nw
         have hb := nw.below
         clear hb nw
         simp only [Act.put, aP]
         refine ⟨?_, ?_⟩
         · refine Mm.o_callX H (fun W h => h.sub (by simp)) rfl rfl 18 (#[.agg #[.string S, .int .i64 (h : Int), .int .i64 (m : Int)]]) (by go_simp; first | done | rfl) (cm.out _) ?_
           clear H
           intro r9 _ H hr hb
           obtain ⟨v, rfl, hsv, ho1⟩ := hr
           have HM := hidp hsv
           clear hsv
           clear hb
           simp only [Act.put, aP]
           refine ⟨?_, ?_⟩
           · refine Mm.o_callH (v := .tuple #[.agg #[.string S, .int .i64 (h : Int), .int .i64 M, v], .agg X.row.toArray, .int .i64 E1]) H (fun W h => h.sub (by simp)) rfl rfl 17 (#[.agg #[.string S, .int .i64 (h : Int), .int .i64 (m : Int), v], .agg x.row.toArray]) (by go_simp; first | done | rfl) (cd.out _ v HM.out) ?_
             clear H
             intro _ H hb
             replace HM := hidp (hat_below HM.out hb); clear hb
             iterate 4
              simp only [Act.put, aP]
              apply s_val
              case ho | hw => rfl
              case hv => intro w hw; go_simp; first | done | rfl
             simp only [Act.put, aP]
             refine Mm.o_newH rtD H (fun W h => h.sub (by simp)) rfl rfl rfl ?_
             clear H
             intro b14 _ H nw
             have hb := nw.below
             replace HM := hidp (hat_below HM.out hb); clear hb nw
             simp only [Act.put, aP]
             refine Mm.oput1 rtDR H [.string S, .int .i64 (h : Int), .int .i64 M, v] (fun W h => h.sub (by simp)) rfl rfl (.tmp 11) (.tmp 53) rfl rfl rfl rfl (one_dr ho1) rfl ?_
             intro _ H2 st
             clear st H
             have H := H2
             clear H2
             simp only [Act.put, aP]
             refine Mm.oput0 rtD H X.row (fun W h => h.sub (by simp)) rfl rfl (.tmp 12) (.tmp 54) rfl rfl rfl rfl (De.one X) rfl ?_
             intro _ H2 st
             clear st H
             have H := H2
             clear H2
             simp only [Act.put, aP]
             apply s_val
             case ho | hw => rfl
             case hv => intro w hw; go_simp; first | done | rfl
             simp only [Act.put, aP]
             refine NoPanic.normal ?_
             exact ⟨rfl, b13, b14, v, rfl, ho1, .inl H⟩
           · refine Mm.o_newH rtD H (fun W h => h.sub (by simp)) rfl rfl rfl ?_
             clear H
             intro b14 _ H nw
             have hb := nw.below
             replace HM := hidp (hat_below HM.out hb); clear hb nw
             simp only [Act.put, aP]
             refine Mm.o_callH (v := .tuple #[.agg #[.string S, .int .i64 (h : Int), .int .i64 M, v], .agg X.row.toArray, .int .i64 E1]) H (fun W h => h.sub (by simp)) rfl rfl 17 (#[.agg #[.string S, .int .i64 (h : Int), .int .i64 (m : Int), v], .agg x.row.toArray]) (by go_simp; first | done | rfl) (cd.out _ v HM.out) ?_
             clear H
             intro _ H hb
             replace HM := hidp (hat_below HM.out hb); clear hb
             iterate 4
              simp only [Act.put, aP]
              apply s_val
              case ho | hw => rfl
              case hv => intro w hw; go_simp; first | done | rfl
             simp only [Act.put, aP]
             refine Mm.oput1 rtDR H [.string S, .int .i64 (h : Int), .int .i64 M, v] (fun W h => h.sub (by simp)) rfl rfl (.tmp 11) (.tmp 53) rfl rfl rfl rfl (one_dr ho1) rfl ?_
             intro _ H2 st
             clear st H
             have H := H2
             clear H2
             simp only [Act.put, aP]
             refine Mm.oput0 rtD H X.row (fun W h => h.sub (by simp)) rfl rfl (.tmp 12) (.tmp 54) rfl rfl rfl rfl (De.one X) rfl ?_
             intro _ H2 st
             clear st H
             have H := H2
             clear H2
             simp only [Act.put, aP]
             apply s_val
             case ho | hw => rfl
             case hv => intro w hw; go_simp; first | done | rfl
             simp only [Act.put, aP]
             refine NoPanic.normal ?_
             exact ⟨rfl, b13, b14, v, rfl, ho1, .inl H⟩
         · refine Mm.o_newH rtD H (fun W h => h.sub (by simp)) rfl rfl rfl ?_
           clear H
           intro b14 _ H nw
           have hb := nw.below
           clear hb nw
           simp only [Act.put, aP]
           refine Mm.o_callX H (fun W h => h.sub (by simp)) rfl rfl 18 (#[.agg #[.string S, .int .i64 (h : Int), .int .i64 (m : Int)]]) (by go_simp; first | done | rfl) (cm.out _) ?_
           clear H
           intro r9 _ H hr hb
           obtain ⟨v, rfl, hsv, ho1⟩ := hr
           have HM := hidp hsv
           clear hsv
           clear hb
           simp only [Act.put, aP]
           refine Mm.o_callH (v := .tuple #[.agg #[.string S, .int .i64 (h : Int), .int .i64 M, v], .agg X.row.toArray, .int .i64 E1]) H (fun W h => h.sub (by simp)) rfl rfl 17 (#[.agg #[.string S, .int .i64 (h : Int), .int .i64 (m : Int), v], .agg x.row.toArray]) (by go_simp; first | done | rfl) (cd.out _ v HM.out) ?_
           clear H
           intro _ H hb
           replace HM := hidp (hat_below HM.out hb); clear hb
           iterate 4
            simp only [Act.put, aP]
            apply s_val
            case ho | hw => rfl
            case hv => intro w hw; go_simp; first | done | rfl
           simp only [Act.put, aP]
           refine Mm.oput1 rtDR H [.string S, .int .i64 (h : Int), .int .i64 M, v] (fun W h => h.sub (by simp)) rfl rfl (.tmp 11) (.tmp 53) rfl rfl rfl rfl (one_dr ho1) rfl ?_
           intro _ H2 st
           clear st H
           have H := H2
           clear H2
           simp only [Act.put, aP]
           refine Mm.oput0 rtD H X.row (fun W h => h.sub (by simp)) rfl rfl (.tmp 12) (.tmp 54) rfl rfl rfl rfl (De.one X) rfl ?_
           intro _ H2 st
           clear st H
           have H := H2
           clear H2
           simp only [Act.put, aP]
           apply s_val
           case ho | hw => rfl
           case hv => intro w hw; go_simp; first | done | rfl
           simp only [Act.put, aP]
           refine NoPanic.normal ?_
           exact ⟨rfl, b13, b14, v, rfl, ho1, .inl H⟩
       · refine Mm.o_newH rtD H (fun W h => h.sub (by simp)) rfl rfl rfl ?_
         clear H
         intro b14 _ H nw
         have hb := nw.below
         clear hb nw
         simp only [Act.put, aP]
         refine ⟨?_, ?_⟩
         · refine Mm.o_callX H (fun W h => h.sub (by simp)) rfl rfl 18 (#[.agg #[.string S, .int .i64 (h : Int), .int .i64 (m : Int)]]) (by go_simp; first | done | rfl) (cm.out _) ?_
           clear H
           intro r9 _ H hr hb
           obtain ⟨v, rfl, hsv, ho1⟩ := hr
           have HM := hidp hsv
           clear hsv
           clear hb
           simp only [Act.put, aP]
           refine ⟨?_, ?_⟩
           · refine Mm.o_callH (v := .tuple #[.agg #[.string S, .int .i64 (h : Int), .int .i64 M, v], .agg X.row.toArray, .int .i64 E1]) H (fun W h => h.sub (by simp)) rfl rfl 17 (#[.agg #[.string S, .int .i64 (h : Int), .int .i64 (m : Int), v], .agg x.row.toArray]) (by go_simp; first | done | rfl) (cd.out _ v HM.out) ?_
             clear H
             intro _ H hb
             replace HM := hidp (hat_below HM.out hb); clear hb
             iterate 4
              simp only [Act.put, aP]
              apply s_val
              case ho | hw => rfl
              case hv => intro w hw; go_simp; first | done | rfl
             simp only [Act.put, aP]
             refine Mm.o_newH rtDR H (fun W h => h.sub (by simp)) rfl rfl rfl ?_
             clear H
             intro b13 _ H nw
             have hb := nw.below
             replace HM := hidp (hat_below HM.out hb); clear hb nw
             simp only [Act.put, aP]
             refine Mm.oput0 rtDR H [.string S, .int .i64 (h : Int), .int .i64 M, v] (fun W h => h.sub (by simp)) rfl rfl (.tmp 11) (.tmp 53) rfl rfl rfl rfl (one_dr ho1) rfl ?_
             intro _ H2 st
             clear st H
             have H := H2
             clear H2
             simp only [Act.put, aP]
             refine Mm.oput1 rtD H X.row (fun W h => h.sub (by simp)) rfl rfl (.tmp 12) (.tmp 54) rfl rfl rfl rfl (De.one X) rfl ?_
             intro _ H2 st
             clear st H
             have H := H2
             clear H2
             simp only [Act.put, aP]
             apply s_val
             case ho | hw => rfl
             case hv => intro w hw; go_simp; first | done | rfl
             simp only [Act.put, aP]
             refine NoPanic.normal ?_
             exact ⟨rfl, b13, b14, v, rfl, ho1, .inr H⟩
           · refine Mm.o_newH rtDR H (fun W h => h.sub (by simp)) rfl rfl rfl ?_
             clear H
             intro b13 _ H nw
             have hb := nw.below
             replace HM := hidp (hat_below HM.out hb); clear hb nw
             simp only [Act.put, aP]
             refine Mm.o_callH (v := .tuple #[.agg #[.string S, .int .i64 (h : Int), .int .i64 M, v], .agg X.row.toArray, .int .i64 E1]) H (fun W h => h.sub (by simp)) rfl rfl 17 (#[.agg #[.string S, .int .i64 (h : Int), .int .i64 (m : Int), v], .agg x.row.toArray]) (by go_simp; first | done | rfl) (cd.out _ v HM.out) ?_
             clear H
             intro _ H hb
             replace HM := hidp (hat_below HM.out hb); clear hb
             iterate 4
              simp only [Act.put, aP]
              apply s_val
              case ho | hw => rfl
              case hv => intro w hw; go_simp; first | done | rfl
             simp only [Act.put, aP]
             refine Mm.oput0 rtDR H [.string S, .int .i64 (h : Int), .int .i64 M, v] (fun W h => h.sub (by simp)) rfl rfl (.tmp 11) (.tmp 53) rfl rfl rfl rfl (one_dr ho1) rfl ?_
             intro _ H2 st
             clear st H
             have H := H2
             clear H2
             simp only [Act.put, aP]
             refine Mm.oput1 rtD H X.row (fun W h => h.sub (by simp)) rfl rfl (.tmp 12) (.tmp 54) rfl rfl rfl rfl (De.one X) rfl ?_
             intro _ H2 st
             clear st H
             have H := H2
             clear H2
             simp only [Act.put, aP]
             apply s_val
             case ho | hw => rfl
             case hv => intro w hw; go_simp; first | done | rfl
             simp only [Act.put, aP]
             refine NoPanic.normal ?_
             exact ⟨rfl, b13, b14, v, rfl, ho1, .inr H⟩
         · refine Mm.o_newH rtDR H (fun W h => h.sub (by simp)) rfl rfl rfl ?_
           clear H
           intro b13 _ H nw
           have hb := nw.below
           clear hb nw
           simp only [Act.put, aP]
           refine Mm.o_callX H (fun W h => h.sub (by simp)) rfl rfl 18 (#[.agg #[.string S, .int .i64 (h : Int), .int .i64 (m : Int)]]) (by go_simp; first | done | rfl) (cm.out _) ?_
           clear H
           intro r9 _ H hr hb
           obtain ⟨v, rfl, hsv, ho1⟩ := hr
           have HM := hidp hsv
           clear hsv
           clear hb
           simp only [Act.put, aP]
           refine Mm.o_callH (v := .tuple #[.agg #[.string S, .int .i64 (h : Int), .int .i64 M, v], .agg X.row.toArray, .int .i64 E1]) H (fun W h => h.sub (by simp)) rfl rfl 17 (#[.agg #[.string S, .int .i64 (h : Int), .int .i64 (m : Int), v], .agg x.row.toArray]) (by go_simp; first | done | rfl) (cd.out _ v HM.out) ?_
           clear H
           intro _ H hb
           replace HM := hidp (hat_below HM.out hb); clear hb
           iterate 4
            simp only [Act.put, aP]
            apply s_val
            case ho | hw => rfl
            case hv => intro w hw; go_simp; first | done | rfl
           simp only [Act.put, aP]
           refine Mm.oput0 rtDR H [.string S, .int .i64 (h : Int), .int .i64 M, v] (fun W h => h.sub (by simp)) rfl rfl (.tmp 11) (.tmp 53) rfl rfl rfl rfl (one_dr ho1) rfl ?_
           intro _ H2 st
           clear st H
           have H := H2
           clear H2
           simp only [Act.put, aP]
           refine Mm.oput1 rtD H X.row (fun W h => h.sub (by simp)) rfl rfl (.tmp 12) (.tmp 54) rfl rfl rfl rfl (De.one X) rfl ?_
           intro _ H2 st
           clear st H
           have H := H2
           clear H2
           simp only [Act.put, aP]
           apply s_val
           case ho | hw => rfl
           case hv => intro w hw; go_simp; first | done | rfl
           simp only [Act.put, aP]
           refine NoPanic.normal ?_
           exact ⟨rfl, b13, b14, v, rfl, ho1, .inr H⟩
     · intro b13 b14 v W ⟨ho1, hm⟩
       clear H
       simp only [Act.put, aP]
       rcases hm with H | H
       · go_upto_region 10 with fail
         refine Mm.region H (.take 0 (.take 1 (.take 2 (.take 3 (.take 4 (.take 5 (.take 6 (.take 7 (.take 8 (.take 9 (.take 11 (.take 12 (.one 10 (.take 13 (.take 14 (.take 15 (.take 16 (.take 17 (.take 19 (.take 20 (.one 18 (.one 21 (.take 22 (.take 23 (.take 24 (.take 25 (.take 26 (.take 28 (.take 29 (.one 27 (.one 30 (.take 31 (.take 32 (.take 33 .done)))))))))))))))))))))))))))))))))) (by kernel_rfl) (by kernel_rfl) (by simp [Scr.depth]) (by kernel_rfl) ?_
         clear H
         intro _ H hb
         clear hb
         refine Mm.sget2 rtD (fun w h => h) rfl rfl (.tmp 9) rfl rfl rfl ?_
         simp only [Act.put, aP]
         refine Mm.sget0 rtD (fun w h => h) rfl rfl (.tmp 12) rfl rfl rfl ?_
         simp only [Act.put, aP]
         refine s_eqDe rfl rfl _ _ _ rfl _ rfl rfl ?_
         iterate 8
          simp only [Act.put, aP]
          apply s_val
          case ho | hw => rfl
          case hv => intro w hw; go_simp; first | done | rfl
         simp only [Act.put, aP]
         refine s_ldKy rfl rfl (.tmp 67) rfl b13 S (h : Int) M v rfl (fun w h => h.at1) ?_
         simp only [Act.put, aP]
         refine Mm.o_callH (v := .agg #[.string S, .int .i64 (h : Int), .int .i64 M]) H (fun W h => h) rfl rfl 19 (#[.pointer (some ⟨br, 0, none⟩)]) (by go_simp; first | done | rfl) (ckr.out _ br H.out.at3) ?_
         clear H
         intro _ H hb
         clear hb
         simp only [Act.put, aP]
         refine s_eqKy rfl rfl _ _ _ rfl S (h : Int) M rfl rfl ?_
         iterate 3
          simp only [Act.put, aP]
          apply s_val
          case ho | hw => rfl
          case hv => intro w hw; go_simp; first | done | rfl
         simp only [Act.put, aP]
         refine Mm.sget4 rtD (fun w h => h) rfl rfl (.tmp 4) rfl rfl rfl ?_
         simp only [Act.put, aP]
         apply s_val
         case ho | hw => rfl
         case hv => intro w hw; go_simp; first | done | rfl
         simp only [Act.put, aP]
         refine Mm.sget4 rtD (fun w h => h) rfl rfl (.tmp 4) rfl rfl rfl ?_
         simp only [Act.put, aP]
         refine Mm.o_callH (v := .int .i64 V1) H (fun W h => h) rfl rfl 13 (#[vb, .agg x.row.toArray]) (by go_simp; first | done | rfl) (cv1.out _ (HVV.out.to H.out.below) (HI.out.below H.out.below (Nat.le_refl _)) (HT0.out.below H.out.below (Nat.le_refl _)) (HK.out.below H.out.below hkp)) ?_
         clear H
         intro _ H hb
         clear hb
         simp only [Act.put, aP]
         refine Mm.o_callH (v := .int .i64 V1) H (fun W h => h) rfl rfl 14 (#[vb, .agg x.row.toArray]) (by go_simp; first | done | rfl) (dv1.out _ (HVV.out.to H.out.below)) ?_
         clear H
         intro _ H hb
         clear hb
         iterate 4
          simp only [Act.put, aP]
          apply s_val
          case ho | hw => rfl
          case hv => intro w hw; go_simp; first | done | rfl
         simp only [Act.put, aP]
         refine Mm.sget2 rtD (fun w h => h) rfl rfl (.tmp 9) rfl rfl rfl ?_
         simp only [Act.put, aP]
         apply s_val
         case ho | hw => rfl
         case hv => intro w hw; go_simp; first | done | rfl
         simp only [Act.put, aP]
         refine Mm.sget2 rtD (fun w h => h) rfl rfl (.tmp 9) rfl rfl rfl ?_
         simp only [Act.put, aP]
         refine Mm.o_callH (v := .int .i64 V2) H (fun W h => h) rfl rfl 13 (#[vb, .agg X.row.toArray]) (by go_simp; first | done | rfl) (cv2.out _ (HVV.out.to H.out.below) (HI.out.below H.out.below (Nat.le_refl _)) (HT0.out.below H.out.below (Nat.le_refl _)) (HK.out.below H.out.below hkp)) ?_
         clear H
         intro _ H hb
         clear hb
         simp only [Act.put, aP]
         refine Mm.o_callH (v := .int .i64 V2) H (fun W h => h) rfl rfl 14 (#[vb, .agg X.row.toArray]) (by go_simp; first | done | rfl) (dv2.out _ (HVV.out.to H.out.below)) ?_
         clear H
         intro _ H hb
         clear hb
         iterate 3
          simp only [Act.put, aP]
          apply s_val
          case ho | hw => rfl
          case hv => intro w hw; go_simp; first | done | rfl
         simp only [Act.put, aP]
         refine NoPanic.normal ?_
         go_wp2
         go_ret
         exact ⟨rfl, H.out.below⟩
       · go_upto_region 10 with fail
         refine Mm.region H (.take 0 (.take 1 (.take 2 (.take 3 (.take 4 (.take 5 (.take 6 (.take 7 (.take 8 (.take 9 (.take 11 (.take 12 (.one 10 (.take 13 (.take 14 (.take 15 (.take 16 (.take 17 (.take 19 (.take 20 (.one 18 (.one 21 (.take 22 (.take 23 (.take 24 (.take 25 (.take 26 (.take 28 (.take 29 (.one 27 (.one 30 (.take 31 (.take 32 (.take 33 .done)))))))))))))))))))))))))))))))))) (by kernel_rfl) (by kernel_rfl) (by simp [Scr.depth]) (by kernel_rfl) ?_
         clear H
         intro _ H hb
         clear hb
         refine Mm.sget2 rtD (fun w h => h) rfl rfl (.tmp 9) rfl rfl rfl ?_
         simp only [Act.put, aP]
         refine Mm.sget1 rtD (fun w h => h) rfl rfl (.tmp 12) rfl rfl rfl ?_
         simp only [Act.put, aP]
         refine s_eqDe rfl rfl _ _ _ rfl _ rfl rfl ?_
         iterate 8
          simp only [Act.put, aP]
          apply s_val
          case ho | hw => rfl
          case hv => intro w hw; go_simp; first | done | rfl
         simp only [Act.put, aP]
         refine s_ldKy rfl rfl (.tmp 67) rfl b13 S (h : Int) M v rfl (fun w h => h.at0) ?_
         simp only [Act.put, aP]
         refine Mm.o_callH (v := .agg #[.string S, .int .i64 (h : Int), .int .i64 M]) H (fun W h => h) rfl rfl 19 (#[.pointer (some ⟨br, 0, none⟩)]) (by go_simp; first | done | rfl) (ckr.out _ br H.out.at3) ?_
         clear H
         intro _ H hb
         clear hb
         simp only [Act.put, aP]
         refine s_eqKy rfl rfl _ _ _ rfl S (h : Int) M rfl rfl ?_
         iterate 3
          simp only [Act.put, aP]
          apply s_val
          case ho | hw => rfl
          case hv => intro w hw; go_simp; first | done | rfl
         simp only [Act.put, aP]
         refine Mm.sget4 rtD (fun w h => h) rfl rfl (.tmp 4) rfl rfl rfl ?_
         simp only [Act.put, aP]
         apply s_val
         case ho | hw => rfl
         case hv => intro w hw; go_simp; first | done | rfl
         simp only [Act.put, aP]
         refine Mm.sget4 rtD (fun w h => h) rfl rfl (.tmp 4) rfl rfl rfl ?_
         simp only [Act.put, aP]
         refine Mm.o_callH (v := .int .i64 V1) H (fun W h => h) rfl rfl 13 (#[vb, .agg x.row.toArray]) (by go_simp; first | done | rfl) (cv1.out _ (HVV.out.to H.out.below) (HI.out.below H.out.below (Nat.le_refl _)) (HT0.out.below H.out.below (Nat.le_refl _)) (HK.out.below H.out.below hkp)) ?_
         clear H
         intro _ H hb
         clear hb
         simp only [Act.put, aP]
         refine Mm.o_callH (v := .int .i64 V1) H (fun W h => h) rfl rfl 14 (#[vb, .agg x.row.toArray]) (by go_simp; first | done | rfl) (dv1.out _ (HVV.out.to H.out.below)) ?_
         clear H
         intro _ H hb
         clear hb
         iterate 4
          simp only [Act.put, aP]
          apply s_val
          case ho | hw => rfl
          case hv => intro w hw; go_simp; first | done | rfl
         simp only [Act.put, aP]
         refine Mm.sget2 rtD (fun w h => h) rfl rfl (.tmp 9) rfl rfl rfl ?_
         simp only [Act.put, aP]
         apply s_val
         case ho | hw => rfl
         case hv => intro w hw; go_simp; first | done | rfl
         simp only [Act.put, aP]
         refine Mm.sget2 rtD (fun w h => h) rfl rfl (.tmp 9) rfl rfl rfl ?_
         simp only [Act.put, aP]
         refine Mm.o_callH (v := .int .i64 V2) H (fun W h => h) rfl rfl 13 (#[vb, .agg X.row.toArray]) (by go_simp; first | done | rfl) (cv2.out _ (HVV.out.to H.out.below) (HI.out.below H.out.below (Nat.le_refl _)) (HT0.out.below H.out.below (Nat.le_refl _)) (HK.out.below H.out.below hkp)) ?_
         clear H
         intro _ H hb
         clear hb
         simp only [Act.put, aP]
         refine Mm.o_callH (v := .int .i64 V2) H (fun W h => h) rfl rfl 14 (#[vb, .agg X.row.toArray]) (by go_simp; first | done | rfl) (dv2.out _ (HVV.out.to H.out.below)) ?_
         clear H
         intro _ H hb
         clear hb
         iterate 3
          simp only [Act.put, aP]
          apply s_val
          case ho | hw => rfl
          case hv => intro w hw; go_simp; first | done | rfl
         simp only [Act.put, aP]
         refine NoPanic.normal ?_
         go_wp2
         go_ret
         exact ⟨rfl, H.out.below⟩
end Go.Proofs.YtokakgjcegmabaaGreatDoor.Ho
