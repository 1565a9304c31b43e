/-
  Joined: TlA.
-/
import Derived.Test.YtfenjincbhkodaaDoorTP
import Derived.Test.YtfenjincbhkodaaDoorTO
import Derived.Test.YtfenjincbhkodaaDoorTB
import Derived.Deep.Cut
namespace Go.Proofs.YtfenjincbhkodaaDoor.Tl
set_option maxRecDepth 100000
set_option linter.unusedVariables false
set_option linter.unusedSimpArgs false
open Go.RowKit Rw
open List (getElem_toArray getElem_cons_zero getElem_cons_succ setIfInBounds_toArray set_cons_zero set_cons_succ)
open Rw
theorem rtH : Rt.RT Tryd.prog 24 32 (u8s z32) := ⟨by decide, .inr ⟨_, _, hash_row⟩, by kernel_rfl⟩
theorem naS : Mm.NA Tryd.prog 9 := ⟨_, Tryd.underlying9, rfl⟩
theorem u8_one (l : List UInt8) : ∀ u ∈ u8s l, u.oneCell' = true := fun u hu => by
  obtain ⟨b, _, rfl⟩ := List.mem_map.1 hu; rfl
theorem nput {w W V : World} {b t : Nat} {r : List Value} (n : Rt.NewAt w W b t r) (st : Rt.Stp b W V) : Below w.heap.size w V := n.below.trans (st.below _ n.le)
theorem begins_any (w : World) : Calls Tryd.prog 25 #[] w fun e w' => e = .returned (.bool true) ∧ Below w.heap.size w w' := by
  have c1 : Hid (∀ w, Calls Tryd.prog 45 #[.int .u64 300] w fun e w' => e = .returned (.tuple #[.string ⟨#[172, 2]⟩, .int .i64 0]) ∧ Below w.heap.size w w') := fun w => by
    have := num_any w 300 (by omega); rw [numS_yes (by omega), numE_yes (by omega), e300] at this; exact this
  go_enter Tryd.func25, Tryd.ntmps25
  go_wp2_with fail
  refine (c1.out _).mono ?_
  rintro e w1 ⟨rfl, hb1⟩
  go_wp2_with fail
  go_ret
  exact ⟨rfl, hb1⟩
theorem redact_ev (w : World) (e : Ev) (h : e.ok) : Calls Tryd.prog 27 #[.agg e.row.toArray] w fun x w' => x = .returned (.agg (rdE e).row.toArray) ∧ Below w.heap.size w w' :=
  redact_any w e.room e.sender e.kind e.key e.body e.nonce h.k h.r h.s h.y h.b
theorem ref_ev (w : World) (e : Ev) (h : e.ok) (ho : evOk e = true) (hI : IT w) (hW : WT w) (hK : Sh.KT w) : Calls Tryd.prog 30 #[.agg e.row.toArray] w fun x w' => x = .returned (.tuple #[.agg (u8s (refH e.room e.sender e.kind e.key e.body e.nonce)).toArray, .int .i64 0]) ∧ Below w.heap.size w w' := by
  have := ref_any w e.room e.sender e.kind e.key e.body e.nonce h.k h.r h.s h.y h.b hI hW hK
  rw [show evE (⟨e.room, e.sender, e.kind, e.key, e.body, e.nonce⟩ : Ev) = 0 from if_pos ho] at this
  exact this
theorem ce_ev {w : World} {B o : Nat} {c : Ce} (h : w.rangeAt B o c.row) : w.rangeAt B (o + 2) c.e.row := fun j u hj => by
  have := h (2 + j) u (by unfold Ce.row; simpa [Ev.row, Nat.add_comm] using hj)
  rw [Nat.add_assoc]; exact this
theorem ce_cells {w : World} {B o n c0 : Nat} {cs : List Ce} {i : Nat} {c : Ce} (h : CsAt w (.slice (some ⟨B, o, none⟩) n c0) cs) (hi : i < cs.length) (hc : cs[i] = c) :
    w.cell? ⟨B, o + 8 * i, none⟩ = some (.int .u8 (c.k : Int)) ∧ w.cell? ⟨B, o + 8 * i + 1, none⟩ = some (.string c.y) ∧ w.rangeAt B (o + 8 * i + 2) c.e.row := by
  obtain ⟨B', o', c', e, -, -, hR⟩ := h.get (by omega)
  simp only [Value.slice.injEq, Option.some.injEq, Addr.mk.injEq] at e
  obtain ⟨⟨rfl, rfl, -⟩, -, -⟩ := e
  have hr := hR i hi
  rw [hc] at hr
  exact ⟨hr 0 _ rfl, hr 1 _ rfl, ce_ev hr⟩
theorem regionC {P : Program} {ops : Array Oper} {a : Act} {w w0 : World} {N : Nat} {L : List Mm.Bx} {Q : Exit → Act → World → Prop} {id : Nat} {v1 v2 : Value} {cs ds : List Ce} (H : Hid (Mm.M N w0 w L)) (hs : CsAt w v1 cs) (ht : CsAt w v2 ds) (s : Scr) (hm : P.follows .mixedOrders = true) (hn : Region.noSelect ops = true) (hd : s.depth ≤ ops.size) (hc : s.chk .any ops (Array.replicate ops.size false) = true)
    (h : ∀ U, Hid (Mm.M N w0 U L) → CsAt U v1 cs → CsAt U v2 ds → wpScr P ops (NoPanic Q) s (fun W => Mm.M N w0 W L ∧ CsAt W v1 cs ∧ CsAt W v2 ds) a U) : (Code.region id ops true).wp P Q a w :=
  wp_region_noPanic (wp_region_scr (S := fun W => Mm.M N w0 W L ∧ CsAt W v1 cs ∧ CsAt W v2 ds) s hm hn (fun _ _ _ _ _ h => h) hd hc ⟨H.out.drew, hs.to (Below.refl _ _).drew, ht.to (Below.refl _ _).drew⟩ (h _ (hidp H.out.drew) (hs.to (Below.refl _ _).drew) (ht.to (Below.refl _ _).drew)))
theorem eqin_hd (d : Nat) (W : World) (a b : List UInt8) (ha : a.length = 32) (hb : b.length = 32) :
    (Op.equalIn (d + 2) 24 (.agg (u8s a).toArray) (.agg (u8s b).toArray)).run Tryd.prog W = .ok (decide (a = b)) W := by
  obtain ⟨i0, hi, hz0, hz1, hz2⟩ := info_parts info5
  have hu : Tryd.prog.underlying 24 = some (.array 32 5) := by kernel_rfl
  have hu8 : Tryd.prog.underlying 5 = some (.int .u8) := Tryd.underlying5
  have hsz : ∀ W, (sizeOf 5).run Tryd.prog W = .ok 1 W := by intro W; simp [sizeOf, typeInfo, hi, hz1]
  have hpart : ∀ (l : List UInt8) (i : Nat) (W : World), l.length = 32 → i < 32 → (part 5 (u8s l).toArray (i * 1)).run Tryd.prog W = .ok (.int .u8 ((l.getD i 0).toNat : Int)) W := by
    intro l i W hl hlt
    simp [part, sizeOf, typeInfo, hi, hz0, hz1, hz2, hl, hlt, u8s, List.getD_eq_getElem?_getD]
  have hdec : decide (a = b) = (List.range' 0 32).all (fun i => a.getD i 0 == b.getD i 0) := by
    rw [Bool.eq_iff_iff, decide_eq_true_iff, List.all_eq_true]
    constructor
    · rintro rfl i _; simp
    · intro h
      apply List.ext_getElem (by omega)
      intro i h1 h2
      have := h i (by simp [List.mem_range']; omega)
      simpa [List.getD_eq_getElem?_getD, h1, h2] using this
  rw [hdec]
  unfold Op.equalIn
  simp only [Sem.run_bind, run_underlying hu, Result.andThen_ok, hsz]
  rw [Std.Legacy.Range.forIn_eq_forIn_range']
  have hall : ∀ i ∈ List.range' 0 32, i < 32 := by intro i h; simp [List.mem_range'] at h; omega
  show ((Sem.run Tryd.prog (forIn (List.range' 0 32) _ _) W).andThen _) = _
  generalize List.range' 0 32 = is at hall ⊢
  induction is generalizing W with
  | nil => simp
  | cons i is ih =>
    have hi32 := hall i (by simp)
    have ih := ih W (fun j hj => hall j (by simp [hj]))
    simp only [List.forIn_cons, Sem.run_bind, hpart a i _ ha hi32, hpart b i _ hb hi32, Result.andThen_ok, run_equalIn_int _ _ _ _ _ _ _ hu8, Sem.run_ite, List.all_cons]
    have hbeq : (((a.getD i 0).toNat : Int) == ((b.getD i 0).toNat : Int)) = (a.getD i 0 == b.getD i 0) := by
      rw [Bool.eq_iff_iff, beq_iff_eq, beq_iff_eq, ← UInt8.toNat_inj]; omega
    rw [hbeq]
    cases a.getD i 0 == b.getD i 0
    · simp
    · simpa using ih
set_option maxHeartbeats 16000000 in
theorem walk_topLeft (w : World) (v : Value) (es : List Ev) (hv : EsAt w v es) (user : ByteArray) (hus : user.size ≤ 140737488351232) (hT : IT w ∧ WT w ∧ Sh.KT w) :
    Calls Tryd.prog 6 #[v, .string user] w fun e w' => e = .returned (.bool true) ∧ Below w.heap.size w w' := by
  have HI := hidp hT.1
  have HWT := hidp hT.2.1
  have HK := hidp hT.2.2
  clear hT hus
  have HV := hidp hv; clear hv
  have bg := hidp (fun W => begins_any W)
  obtain ⟨av, cv0, rfl⟩ := HV.out.form
  obtain ⟨n, hnn⟩ : ∃ n, es.length = n := ⟨_, rfl⟩
  have HN := hidp hnn
  have hnb : n ≤ 140737488351232 := hnn ▸ HV.out.len
  rw [hnn] at HV ⊢
  clear hnn
  have H := hidp (Mm.M.nil w)
  go_enter Tryd.func6, Tryd.ntmps6
  have tk0 := hidp trivial
  go_wp2_with (first | (clear tk0; (go_at_call 25; refine (bg.out _).mono ?_; rintro e _ ⟨rfl, hb⟩; replace H := hidp (H.out.call hb); clear bg; clear hb); (try simp only [Act.put, setIfInBounds_toArray, set_cons_zero, set_cons_succ]); have tk1 := hidp trivial))
  try clear tk1
  have HB0 := hidp H.out
  go_loopw [5, 6, 22] (fun t5 t6 t22 wr => ∃ (i : Nat) (cs : List Ce), t22 = .int .i64 (i : Int) ∧ i ≤ n ∧ Hid (okS cs = true) ∧ Hid (CsAt wr t5 cs) ∧ Hid (CsAt wr t6 (cs.map rdC)) ∧ Mm.M w.heap.size w wr []) (fun _ _ t22 _ => n - (intOf t22).toNat)
  case atStart => exact ⟨0, [], rfl, by omega, hidp rfl, hidp (CsAt.nil _), hidp (CsAt.nil _), HB0.out⟩
  case round =>
    obtain ⟨i, cs, rfl, hi, HOK, HS1, HT1, hM⟩ := hrel
    clear H HB0
    have HS := HS1
    have HT := HT1
    have H := hidp hM
    clear hM HS1 HT1
    by_cases hlt : i < n
    · have e1 : decide ((i : Int) < (n : Int)) = true := by simp; omega
      have hgl : i < es.length := by rw [HN.out]; exact hlt
      obtain ⟨BK, off, c, e2, hc, hBK0, hR0⟩ := HV.out.get (by rw [HN.out]; omega)
      rw [HN.out] at e2
      simp only [Value.slice.injEq] at e2
      obtain ⟨rfl, -, rfl⟩ := e2
      obtain ⟨e, hee⟩ : ∃ e, es[i] = e := ⟨_, rfl⟩
      have HRI := hidp (show wr.rangeAt BK (off + 6 * i) e.row from by rw [← hee]; exact rangeAt_below (hR0 i hgl) H.out.below hBK0)
      have heo : e.ok := hee ▸ (HV.out.fit _ (List.getElem_mem hgl)).1
      clear hR0 hc hee hgl hBK0
      by_cases h100 : i = 100
      · have e100 : ((i : Int) == 100) = true := by simp; omega
        have l100 : (i : Int) = 100 := by omega
        have tk0 := hidp trivial
        go_upto_region 15 with (first | (clear tk0; (refine wpL_idxR tyE rfl (.tmp 20) (.tmp 22) rfl BK off n _ i rfl rfl hlt ?_); (try simp only [Act.put, setIfInBounds_toArray, set_cons_zero, set_cons_succ]); have tk1 := hidp trivial) | (clear tk1; (refine wpL_atR tyE rfl (.tmp 25) rfl BK (off + 6 * i) e.row rfl rfl HRI.out ?_); (try simp only [Act.put, setIfInBounds_toArray, set_cons_zero, set_cons_succ]); have tk2 := hidp trivial) | (clear tk2; (refine Mm.new rtE H (some 8) rfl rfl rfl ?_; clear H; intro b8 _ H nw); (try simp only [Act.put, setIfInBounds_toArray, set_cons_zero, set_cons_succ]); have tk3 := hidp trivial) | (clear tk3; (refine Mm.put0 rtE H rfl (.tmp 8) (.tmp 26) e.row rfl rfl rfl rfl (Ev.one _) rfl ?_; intro _ H2 st; have hb := nput nw st; replace HS := hidp (HS.out.to hb); replace HT := hidp (HT.out.to hb); clear st H nw hb; have H := H2; clear H2); (try simp only [Act.put, setIfInBounds_toArray, set_cons_zero, set_cons_succ]); have tk4 := hidp trivial))
        try clear tk4
        have H9 := hidp H.out.tail
        clear H
        have H := H9
        clear H9 e1 e100 l100 hlt h100 HRI heo
        have k1 := hidp (fun W v h h' => (show Calls Tryd.prog 29 #[v] W fun x w' => x = .returned (.int .i64 0) ∧ Below W.heap.size W w' from by
          have := stCheck_any W v cs h h'
          rw [show ckS cs = 0 from if_pos HOK.out] at this; exact this))
        have k2 := hidp (fun W v h h' => (show Calls Tryd.prog 29 #[v] W fun x w' => x = .returned (.int .i64 0) ∧ Below W.heap.size W w' from by
          have := stCheck_any W v (cs.map rdC) h h'
          rw [show ckS (cs.map rdC) = 0 from if_pos (okS_rd HOK.out)] at this; exact this))
        have m1 := hidp (fun W v h => mem_any W v cs h user)
        have m2 := hidp (fun W v h => mem_any W v (cs.map rdC) h user)
        rw [memS_rd HOK.out user] at m2
        obtain ⟨n1, hn1⟩ : ∃ n1, cs.length = n1 := ⟨_, rfl⟩
        have HN1 := hidp hn1
        have hn256 : n1 ≤ 256 := hn1 ▸ ((okS_iff cs).1 HOK.out).1
        obtain ⟨a5, c5, f5⟩ := HS.out.form
        obtain ⟨a6, c6, f6⟩ := HT.out.form
        rw [hn1] at f5
        rw [List.length_map, hn1] at f6
        subst f5 f6
        clear hn1
        have tk0 := hidp trivial
        go_wp2_with (first | (clear tk0; (go_at_call 29; refine (k1.out _ _ HS.out (HI.out.below H.out.below (Nat.le_refl _))).mono ?_; rintro x9 _ ⟨rfl, hb⟩; replace H := hidp (H.out.call hb); replace HS := hidp (HS.out.to hb); replace HT := hidp (HT.out.to hb); clear hb k1); (try simp only [Act.put, setIfInBounds_toArray, set_cons_zero, set_cons_succ]); have tk1 := hidp trivial) | (clear tk1; (go_at_call 29; refine (k2.out _ _ HT.out (HI.out.below H.out.below (Nat.le_refl _))).mono ?_; rintro x9 _ ⟨rfl, hb⟩; replace H := hidp (H.out.call hb); replace HS := hidp (HS.out.to hb); replace HT := hidp (HT.out.to hb); clear hb k2); (try simp only [Act.put, setIfInBounds_toArray, set_cons_zero, set_cons_succ]); have tk2 := hidp trivial))
        try clear tk2
        have HS0 := HS
        have HT0 := HT
        have HB0 := hidp H.out
        go_loopw [74] (fun t74 wr => ∃ i : Nat, t74 = .int .i64 (i : Int) ∧ i ≤ n1 ∧ Hid (CsAt wr (.slice a5 n1 c5) cs) ∧ Hid (CsAt wr (.slice a6 n1 c6) (cs.map rdC)) ∧ Mm.M w.heap.size w wr []) (fun t74 _ => n1 - (intOf t74).toNat)
        case atStart => exact ⟨0, rfl, by omega, HS0, HT0, HB0.out⟩
        case round =>
          obtain ⟨i, rfl, hi, HS1, HT1, hM⟩ := hrel
          clear H HB0 HS HT HS0 HT0
          have HS := HS1
          have HT := HT1
          have H := hidp hM
          clear hM HS1 HT1
          by_cases hlt : i < n1
          · have e1 : decide ((i : Int) < (n1 : Int)) = true := by simp; omega
            have hgl : i < cs.length := by rw [HN1.out]; exact hlt
            obtain ⟨BK, off, c, e2, -, hBK, hR⟩ := HS.out.get (by omega)
            obtain ⟨BL, ofl, cl, e3, -, hBL, hRL⟩ := HT.out.get (by rw [List.length_map]; omega)
            rw [HN1.out] at e2
            rw [List.length_map, HN1.out] at e3
            simp only [Value.slice.injEq] at e2 e3
            obtain ⟨rfl, -, rfl⟩ := e2
            obtain ⟨rfl, -, rfl⟩ := e3
            obtain ⟨x, hxe⟩ : ∃ x, cs[i] = x := ⟨_, rfl⟩
            have hxm : x ∈ cs := hxe ▸ List.getElem_mem hgl
            have hr1 : wr.rangeAt BK (off + 8 * i) x.row := by rw [← hxe]; exact hR i hgl
            have hr2 : wr.rangeAt BL (ofl + 8 * i) (rdC x).row := by have := hRL i (by rw [List.length_map]; exact hgl); rw [List.getElem_map, hxe] at this; exact this
            have HRE := hidp (ce_ev hr1)
            have HRF := hidp (ce_ev hr2)
            have HGS := hidp (fun W (h : CsAt W (.slice (some ⟨BK, off, none⟩) n1 c5) cs) => ce_cells h hgl hxe)
            have HGT := hidp (fun W (h : CsAt W (.slice (some ⟨BL, ofl, none⟩) n1 c6) (cs.map rdC)) => ce_cells (c := rdC x) h (by rw [List.length_map]; exact hgl) (by rw [List.getElem_map, hxe]))
            have hxo := HS.out.ok x hxm
            have hxv := (vaC_ev (((okS_iff cs).1 HOK.out).2.1 x hxm)).1
            obtain ⟨A, hA⟩ : ∃ A, refH x.e.room x.e.sender x.e.kind x.e.key x.e.body x.e.nonce = A := ⟨_, rfl⟩
            have HA := hidp (show A.length = 32 from by rw [← hA]; exact refH_len ..)
            have p1 := hidp (fun W h1 h2 h3 => ref_ev W x.e hxo.e hxv h1 h2 h3)
            have p2 := hidp (fun W h1 h2 h3 => ref_ev W (rdE x.e) (rdE_ok hxo.e) (rdE_evOk hxv) h1 h2 h3)
            rw [ref_rd hxv, hA] at p2
            rw [hA] at p1
            have qh := fun W => eqin_hd 9998 W A A HA.out HA.out
            rw [decide_eq_true rfl] at qh
            clear hr1 hr2 hR hRL hxe hxm hxo hxv hA hgl hBK hBL
            have tk0 := hidp trivial
            go_wp2_with (first | (clear tk0; (refine wpL_idxR tyC rfl (.tmp 78) (.tmp 79) rfl BK off n1 _ i rfl rfl hlt ?_); (try simp only [Act.put, setIfInBounds_toArray, set_cons_zero, set_cons_succ]); have tk1 := hidp trivial) | (clear tk1; (refine wpL_atR tyE rfl (.tmp 81) rfl BK (off + 8 * i + 2) x.e.row rfl rfl HRE.out ?_); (try simp only [Act.put, setIfInBounds_toArray, set_cons_zero, set_cons_succ]); have tk2 := hidp trivial) | (clear tk2; (go_at_call 30; refine (p1.out _ (HI.out.below H.out.below (Nat.le_refl _)) (HWT.out.below H.out.below (Nat.le_refl _)) (HK.out.below H.out.below HK.out.pos)).mono ?_; rintro x9 _ ⟨rfl, hb⟩; replace H := hidp (H.out.call hb); replace HS := hidp (HS.out.to hb); replace HT := hidp (HT.out.to hb); clear hb p1); (try simp only [Act.put, setIfInBounds_toArray, set_cons_zero, set_cons_succ]); have tk3 := hidp trivial) | (clear tk3; (refine Mm.new rtH H (some 14) rfl rfl rfl ?_; clear H; intro b14 _ H nw); (try simp only [Act.put, setIfInBounds_toArray, set_cons_zero, set_cons_succ]); have tk4 := hidp trivial) | (clear tk4; (refine Mm.put0 rtH H rfl (.tmp 14) (.tmp 84) (u8s A) rfl rfl rfl (by show (u8s A).length = 32; rw [u8s_length]; exact HA.out) (u8_one _) rfl ?_; intro _ H2 st; have hb := nput nw st; replace HS := hidp (HS.out.to hb); replace HT := hidp (HT.out.to hb); clear st H nw hb; have H := H2; clear H2); (try simp only [Act.put, setIfInBounds_toArray, set_cons_zero, set_cons_succ]); have tk5 := hidp trivial) | (clear tk5; (refine wpL_idxR tyC rfl (.tmp 87) (.tmp 88) rfl BL ofl n1 _ i rfl rfl hlt ?_); (try simp only [Act.put, setIfInBounds_toArray, set_cons_zero, set_cons_succ]); have tk6 := hidp trivial) | (clear tk6; (refine wpL_atR tyE rfl (.tmp 90) rfl BL (ofl + 8 * i + 2) (rdE x.e).row rfl rfl (HGT.out _ HT.out).2.2 ?_); (try simp only [Act.put, setIfInBounds_toArray, set_cons_zero, set_cons_succ]); have tk7 := hidp trivial) | (clear tk7; (go_at_call 30; refine (p2.out _ (HI.out.below H.out.below (Nat.le_refl _)) (HWT.out.below H.out.below (Nat.le_refl _)) (HK.out.below H.out.below HK.out.pos)).mono ?_; rintro x9 _ ⟨rfl, hb⟩; replace H := hidp (H.out.call hb); replace HS := hidp (HS.out.to hb); replace HT := hidp (HT.out.to hb); clear hb p2); (try simp only [Act.put, setIfInBounds_toArray, set_cons_zero, set_cons_succ]); have tk8 := hidp trivial) | (clear tk8; (refine Mm.new rtH H (some 16) rfl rfl rfl ?_; clear H; intro b16 _ H nw); (try simp only [Act.put, setIfInBounds_toArray, set_cons_zero, set_cons_succ]); have tk9 := hidp trivial) | (clear tk9; (refine Mm.put0 rtH H rfl (.tmp 16) (.tmp 93) (u8s A) rfl rfl rfl (by show (u8s A).length = 32; rw [u8s_length]; exact HA.out) (u8_one _) rfl ?_; intro _ H2 st; have hb := nput nw st; replace HS := hidp (HS.out.to hb); replace HT := hidp (HT.out.to hb); clear st H nw hb; have H := H2; clear H2); (try simp only [Act.put, setIfInBounds_toArray, set_cons_zero, set_cons_succ]); have tk10 := hidp trivial))
            try clear tk10
            refine regionC H HS.out HT.out (.take 0 (.take 1 (.take 2 (.take 3 (.take 4 (.take 5 (.take 6 (.take 7 (.take 8 (.take 9 (.take 10 (.take 11 (.take 12 (.take 13 (.take 14 (.take 15 (.take 16 (.take 17 (.take 18 (.take 19 (.take 20 (.take 21 (.take 22 (.take 23 (.take 24 (.take 25 (.take 26 (.take 27 (.take 28 (.take 29 (.take 30 (.take 31 (.take 32 (.take 33 (.take 34 (.take 35 (.take 36 .done))))))))))))))))))))))))))))))))))))) (by kernel_rfl) (by kernel_rfl) (by simp [Scr.depth]) (by kernel_rfl) ?_
            clear H HS HT
            intro _ H hs ht
            have HS := hidp hs
            have HT := hidp ht
            clear hs ht
            apply s_val
            case ho | hw => rfl
            case hv => intro w hw; go_simp; first | done | rfl
            simp only [Act.put, getElem_toArray, getElem_cons_zero, getElem_cons_succ, setIfInBounds_toArray, set_cons_zero, set_cons_succ]
            apply s_val
            case ho | hw => rfl
            case hv => intro w hw; go_simp; first | done | rfl
            simp only [Act.put, getElem_toArray, getElem_cons_zero, getElem_cons_succ, setIfInBounds_toArray, set_cons_zero, set_cons_succ]
            refine s_idxR tyC rfl rfl (.tmp 95) (.tmp 96) rfl BK off n1 _ i rfl rfl hlt ?_
            simp only [Act.put, getElem_toArray, getElem_cons_zero, getElem_cons_succ, setIfInBounds_toArray, set_cons_zero, set_cons_succ]
            apply s_val
            case ho | hw => rfl
            case hv => intro w hw; go_simp; first | done | rfl
            simp only [Act.put, getElem_toArray, getElem_cons_zero, getElem_cons_succ, setIfInBounds_toArray, set_cons_zero, set_cons_succ]
            refine Mm.s_ldc naK rfl rfl (.tmp 98) ⟨BK, off + 8 * i, none⟩ (.int .u8 (x.k : Int)) rfl rfl (fun W h => (HGS.out W h.2.1).1) ?_
            simp only [Act.put, getElem_toArray, getElem_cons_zero, getElem_cons_succ, setIfInBounds_toArray, set_cons_zero, set_cons_succ]
            apply s_val
            case ho | hw => rfl
            case hv => intro w hw; go_simp; first | done | rfl
            simp only [Act.put, getElem_toArray, getElem_cons_zero, getElem_cons_succ, setIfInBounds_toArray, set_cons_zero, set_cons_succ]
            apply s_val
            case ho | hw => rfl
            case hv => intro w hw; go_simp; first | done | rfl
            simp only [Act.put, getElem_toArray, getElem_cons_zero, getElem_cons_succ, setIfInBounds_toArray, set_cons_zero, set_cons_succ]
            refine s_idxR tyC rfl rfl (.tmp 100) (.tmp 101) rfl BL ofl n1 _ i rfl rfl hlt ?_
            simp only [Act.put, getElem_toArray, getElem_cons_zero, getElem_cons_succ, setIfInBounds_toArray, set_cons_zero, set_cons_succ]
            apply s_val
            case ho | hw => rfl
            case hv => intro w hw; go_simp; first | done | rfl
            simp only [Act.put, getElem_toArray, getElem_cons_zero, getElem_cons_succ, setIfInBounds_toArray, set_cons_zero, set_cons_succ]
            refine Mm.s_ldc naK rfl rfl (.tmp 103) ⟨BL, ofl + 8 * i, none⟩ (.int .u8 (x.k : Int)) rfl rfl (fun W h => (HGT.out W h.2.2).1) ?_
            simp only [Act.put, getElem_toArray, getElem_cons_zero, getElem_cons_succ, setIfInBounds_toArray, set_cons_zero, set_cons_succ]
            apply s_val
            case ho | hw => rfl
            case hv => intro w hw; go_simp; first | done | rfl
            simp only [Act.put, getElem_toArray, getElem_cons_zero, getElem_cons_succ, setIfInBounds_toArray, set_cons_zero, set_cons_succ]
            apply s_val
            case ho | hw => rfl
            case hv => intro w hw; go_simp; first | done | rfl
            simp only [Act.put, getElem_toArray, getElem_cons_zero, getElem_cons_succ, setIfInBounds_toArray, set_cons_zero, set_cons_succ]
            apply s_val
            case ho | hw => rfl
            case hv => intro w hw; go_simp; first | done | rfl
            simp only [Act.put, getElem_toArray, getElem_cons_zero, getElem_cons_succ, setIfInBounds_toArray, set_cons_zero, set_cons_succ]
            apply s_val
            case ho | hw => rfl
            case hv => intro w hw; go_simp; first | done | rfl
            simp only [Act.put, getElem_toArray, getElem_cons_zero, getElem_cons_succ, setIfInBounds_toArray, set_cons_zero, set_cons_succ]
            refine s_idxR tyC rfl rfl (.tmp 107) (.tmp 108) rfl BK off n1 _ i rfl rfl hlt ?_
            simp only [Act.put, getElem_toArray, getElem_cons_zero, getElem_cons_succ, setIfInBounds_toArray, set_cons_zero, set_cons_succ]
            apply s_val
            case ho | hw => rfl
            case hv => intro w hw; go_simp; first | done | rfl
            simp only [Act.put, getElem_toArray, getElem_cons_zero, getElem_cons_succ, setIfInBounds_toArray, set_cons_zero, set_cons_succ]
            refine Mm.s_ldc naS rfl rfl (.tmp 110) ⟨BK, off + 8 * i + 1, none⟩ (.string x.y) rfl rfl (fun W h => (HGS.out W h.2.1).2.1) ?_
            simp only [Act.put, getElem_toArray, getElem_cons_zero, getElem_cons_succ, setIfInBounds_toArray, set_cons_zero, set_cons_succ]
            apply s_val
            case ho | hw => rfl
            case hv => intro w hw; go_simp; first | done | rfl
            simp only [Act.put, getElem_toArray, getElem_cons_zero, getElem_cons_succ, setIfInBounds_toArray, set_cons_zero, set_cons_succ]
            apply s_val
            case ho | hw => rfl
            case hv => intro w hw; go_simp; first | done | rfl
            simp only [Act.put, getElem_toArray, getElem_cons_zero, getElem_cons_succ, setIfInBounds_toArray, set_cons_zero, set_cons_succ]
            refine s_idxR tyC rfl rfl (.tmp 112) (.tmp 113) rfl BL ofl n1 _ i rfl rfl hlt ?_
            simp only [Act.put, getElem_toArray, getElem_cons_zero, getElem_cons_succ, setIfInBounds_toArray, set_cons_zero, set_cons_succ]
            apply s_val
            case ho | hw => rfl
            case hv => intro w hw; go_simp; first | done | rfl
            simp only [Act.put, getElem_toArray, getElem_cons_zero, getElem_cons_succ, setIfInBounds_toArray, set_cons_zero, set_cons_succ]
            refine Mm.s_ldc naS rfl rfl (.tmp 115) ⟨BL, ofl + 8 * i + 1, none⟩ (.string x.y) rfl rfl (fun W h => (HGT.out W h.2.2).2.1) ?_
            simp only [Act.put, getElem_toArray, getElem_cons_zero, getElem_cons_succ, setIfInBounds_toArray, set_cons_zero, set_cons_succ]
            apply s_val
            case ho | hw => rfl
            case hv => intro w hw; go_simp; first | done | rfl
            simp only [Act.put, getElem_toArray, getElem_cons_zero, getElem_cons_succ, setIfInBounds_toArray, set_cons_zero, set_cons_succ]
            apply s_val
            case ho | hw => rfl
            case hv => intro w hw; go_simp; first | done | rfl
            simp only [Act.put, getElem_toArray, getElem_cons_zero, getElem_cons_succ, setIfInBounds_toArray, set_cons_zero, set_cons_succ]
            apply s_val
            case ho | hw => rfl
            case hv => intro w hw; go_simp; first | done | rfl
            simp only [Act.put, getElem_toArray, getElem_cons_zero, getElem_cons_succ, setIfInBounds_toArray, set_cons_zero, set_cons_succ]
            apply s_val
            case ho | hw => rfl
            case hv => intro w hw; go_simp; first | done | rfl
            simp only [Act.put, getElem_toArray, getElem_cons_zero, getElem_cons_succ, setIfInBounds_toArray, set_cons_zero, set_cons_succ]
            apply s_val
            case ho | hw => rfl
            case hv => intro w hw; go_simp; first | done | rfl
            simp only [Act.put, getElem_toArray, getElem_cons_zero, getElem_cons_succ, setIfInBounds_toArray, set_cons_zero, set_cons_succ]
            apply s_val
            case ho | hw => rfl
            case hv => intro w hw; go_simp; first | done | rfl
            simp only [Act.put, getElem_toArray, getElem_cons_zero, getElem_cons_succ, setIfInBounds_toArray, set_cons_zero, set_cons_succ]
            apply s_val
            case ho | hw => rfl
            case hv => intro w hw; go_simp; first | done | rfl
            simp only [Act.put, getElem_toArray, getElem_cons_zero, getElem_cons_succ, setIfInBounds_toArray, set_cons_zero, set_cons_succ]
            apply s_val
            case ho | hw => rfl
            case hv => intro w hw; go_simp; first | done | rfl
            simp only [Act.put, getElem_toArray, getElem_cons_zero, getElem_cons_succ, setIfInBounds_toArray, set_cons_zero, set_cons_succ]
            apply s_val
            case ho | hw => rfl
            case hv => intro w hw; go_simp; first | done | rfl
            simp only [Act.put, getElem_toArray, getElem_cons_zero, getElem_cons_succ, setIfInBounds_toArray, set_cons_zero, set_cons_succ]
            apply s_val
            case ho | hw => rfl
            case hv => intro w hw; go_simp; first | done | rfl
            simp only [Act.put, getElem_toArray, getElem_cons_zero, getElem_cons_succ, setIfInBounds_toArray, set_cons_zero, set_cons_succ]
            apply s_val
            case ho | hw => rfl
            case hv => intro w hw; go_simp; first | done | rfl
            simp only [Act.put, getElem_toArray, getElem_cons_zero, getElem_cons_succ, setIfInBounds_toArray, set_cons_zero, set_cons_succ]
            refine Mm.sget1 rtH (fun W h => h.1) rfl rfl (.tmp 14) rfl rfl (by show (u8s A).length = 32; rw [u8s_length]; exact HA.out) ?_
            simp only [Act.put, getElem_toArray, getElem_cons_zero, getElem_cons_succ, setIfInBounds_toArray, set_cons_zero, set_cons_succ]
            refine Mm.sget0 rtH (fun W h => h.1) rfl rfl (.tmp 16) rfl rfl (by show (u8s A).length = 32; rw [u8s_length]; exact HA.out) ?_
            simp only [Act.put, getElem_toArray, getElem_cons_zero, getElem_cons_succ, setIfInBounds_toArray, set_cons_zero, set_cons_succ]
            apply s_val
            case ho | hw => rfl
            case hv => intro w hw; go_simp; first | done | rfl
            simp only [Act.put, getElem_toArray, getElem_cons_zero, getElem_cons_succ, setIfInBounds_toArray, set_cons_zero, set_cons_succ]
            apply s_val
            case ho | hw => rfl
            case hv => intro w hw; go_simp; first | done | rfl
            simp only [Act.put, getElem_toArray, getElem_cons_zero, getElem_cons_succ, setIfInBounds_toArray, set_cons_zero, set_cons_succ]
            refine NoPanic.normal ?_
            go_wp2_with fail
            exact ⟨⟨i + 1, by go_num, by omega, HS, HT, H.out.tail.tail⟩, by simp [intOf]; omega⟩
          · have e1 : decide ((i : Int) < (n1 : Int)) = false := by simp; omega
            have tk0 := hidp trivial
            go_wp2_with (first | (clear tk0; (go_at_call 31; refine (m1.out _ _ HS.out).mono ?_; rintro x9 _ ⟨rfl, hb⟩; replace H := hidp (H.out.call hb); replace HS := hidp (HS.out.to hb); replace HT := hidp (HT.out.to hb); clear hb m1); (try simp only [Act.put, setIfInBounds_toArray, set_cons_zero, set_cons_succ]); have tk1 := hidp trivial) | (clear tk1; (go_at_call 31; refine (m2.out _ _ HT.out).mono ?_; rintro x9 _ ⟨rfl, hb⟩; replace H := hidp (H.out.call hb); replace HS := hidp (HS.out.to hb); replace HT := hidp (HT.out.to hb); clear hb m2); (try simp only [Act.put, setIfInBounds_toArray, set_cons_zero, set_cons_succ]); have tk2 := hidp trivial))
            try clear tk2
            go_ret
            exact ⟨rfl, H.out.below⟩
      · have e100 : ((i : Int) == 100) = false := by simp; omega
        have n100 : ¬ (i : Int) = 100 := by omega
        have s1 := hidp (fun W v (h : CsAt W v cs) (hi : IT W) => set_any W v cs h e heo hi)
        have s2 := hidp (fun W v (h : CsAt W v (cs.map rdC)) (hi : IT W) => set_any W v (cs.map rdC) h (rdE e) (rdE_ok heo) hi)
        have r1 := hidp (fun W => redact_ev W e heo)
        have ce := hidp (fun W (h : IT W) => evCheck_ev W e heo h)
        by_cases hev : evOk e = true
        · rw [(set_rd HOK.out hev).1, (set_rd HOK.out hev).2] at s2
          have HOK2 := hidp (setV_ok HOK.out e)
          obtain ⟨E, hE⟩ : ∃ E, setE cs e = E := ⟨_, rfl⟩
          rw [hE] at s1 s2
          by_cases h0 : E = 0
          · subst h0
            clear hE hev h100 heo
            have tk0 := hidp trivial
            go_wp2_with (first | (clear tk0; (refine wpL_idxR tyE rfl (.tmp 20) (.tmp 22) rfl BK off n _ i rfl rfl hlt ?_); (try simp only [Act.put, setIfInBounds_toArray, set_cons_zero, set_cons_succ]); have tk1 := hidp trivial) | (clear tk1; (refine wpL_atR tyE rfl (.tmp 25) rfl BK (off + 6 * i) e.row rfl rfl HRI.out ?_); (try simp only [Act.put, setIfInBounds_toArray, set_cons_zero, set_cons_succ]); have tk2 := hidp trivial) | (clear tk2; (refine Mm.new rtE H (some 8) rfl rfl rfl ?_; clear H; intro b8 _ H nw); (try simp only [Act.put, setIfInBounds_toArray, set_cons_zero, set_cons_succ]); have tk3 := hidp trivial) | (clear tk3; (refine Mm.put0 rtE H rfl (.tmp 8) (.tmp 26) e.row rfl rfl rfl rfl (Ev.one _) rfl ?_; intro _ H2 st; have hb := nput nw st; replace HS := hidp (HS.out.to hb); replace HT := hidp (HT.out.to hb); clear st H nw hb; have H := H2; clear H2); (try simp only [Act.put, setIfInBounds_toArray, set_cons_zero, set_cons_succ]); have tk4 := hidp trivial) | (clear tk4; (refine Mm.get0 rtE H rfl (.tmp 8) rfl rfl rfl ?_); (try simp only [Act.put, setIfInBounds_toArray, set_cons_zero, set_cons_succ]); have tk5 := hidp trivial) | (clear tk5; (go_at_call 26; refine (s1.out _ _ HS.out (HI.out.below H.out.below (Nat.le_refl _))).mono ?_; rintro x9 _ ⟨v3, rfl, hc9, hb⟩; replace H := hidp (H.out.call hb); replace HS := hidp (HS.out.to hb); replace HT := hidp (HT.out.to hb); have HX := hidp hc9; clear hc9 hb s1); (try simp only [Act.put, setIfInBounds_toArray, set_cons_zero, set_cons_succ]); have tk6 := hidp trivial) | (clear tk6; (refine Mm.get0 rtE H rfl (.tmp 8) rfl rfl rfl ?_); (try simp only [Act.put, setIfInBounds_toArray, set_cons_zero, set_cons_succ]); have tk7 := hidp trivial) | (clear tk7; (go_at_call 27; refine (r1.out _).mono ?_; rintro x9 _ ⟨rfl, hb⟩; replace H := hidp (H.out.call hb); replace HS := hidp (HS.out.to hb); replace HT := hidp (HT.out.to hb); replace HX := hidp (HX.out.to hb); clear hb r1); (try simp only [Act.put, setIfInBounds_toArray, set_cons_zero, set_cons_succ]); have tk8 := hidp trivial) | (clear tk8; (go_at_call 26; refine (s2.out _ _ HT.out (HI.out.below H.out.below (Nat.le_refl _))).mono ?_; rintro x9 _ ⟨v4, rfl, hc9, hb⟩; replace H := hidp (H.out.call hb); replace HS := hidp (HS.out.to hb); replace HT := hidp (HT.out.to hb); replace HX := hidp (HX.out.to hb); have HY := hidp hc9; clear hc9 hb s2); (try simp only [Act.put, setIfInBounds_toArray, set_cons_zero, set_cons_succ]); have tk9 := hidp trivial))
            try clear tk9
            exact ⟨⟨i + 1, setV cs e, by go_num, by omega, HOK2, HX, HY, H.out.tail⟩, by simp [intOf]; omega⟩
          · have eE : (E == 0) = false := by simpa using h0
            have eN : (E != 0) = true := by simpa using h0
            clear hE hev h100 heo
            have tk0 := hidp trivial
            go_wp2_with (first | (clear tk0; (refine wpL_idxR tyE rfl (.tmp 20) (.tmp 22) rfl BK off n _ i rfl rfl hlt ?_); (try simp only [Act.put, setIfInBounds_toArray, set_cons_zero, set_cons_succ]); have tk1 := hidp trivial) | (clear tk1; (refine wpL_atR tyE rfl (.tmp 25) rfl BK (off + 6 * i) e.row rfl rfl HRI.out ?_); (try simp only [Act.put, setIfInBounds_toArray, set_cons_zero, set_cons_succ]); have tk2 := hidp trivial) | (clear tk2; (refine Mm.new rtE H (some 8) rfl rfl rfl ?_; clear H; intro b8 _ H nw); (try simp only [Act.put, setIfInBounds_toArray, set_cons_zero, set_cons_succ]); have tk3 := hidp trivial) | (clear tk3; (refine Mm.put0 rtE H rfl (.tmp 8) (.tmp 26) e.row rfl rfl rfl rfl (Ev.one _) rfl ?_; intro _ H2 st; have hb := nput nw st; replace HS := hidp (HS.out.to hb); replace HT := hidp (HT.out.to hb); clear st H nw hb; have H := H2; clear H2); (try simp only [Act.put, setIfInBounds_toArray, set_cons_zero, set_cons_succ]); have tk4 := hidp trivial) | (clear tk4; (refine Mm.get0 rtE H rfl (.tmp 8) rfl rfl rfl ?_); (try simp only [Act.put, setIfInBounds_toArray, set_cons_zero, set_cons_succ]); have tk5 := hidp trivial) | (clear tk5; (go_at_call 26; refine (s1.out _ _ HS.out (HI.out.below H.out.below (Nat.le_refl _))).mono ?_; rintro x9 _ ⟨v3, rfl, hc9, hb⟩; replace H := hidp (H.out.call hb); replace HS := hidp (HS.out.to hb); replace HT := hidp (HT.out.to hb); have HX := hidp hc9; clear hc9 hb s1); (try simp only [Act.put, setIfInBounds_toArray, set_cons_zero, set_cons_succ]); have tk6 := hidp trivial) | (clear tk6; (refine Mm.get0 rtE H rfl (.tmp 8) rfl rfl rfl ?_); (try simp only [Act.put, setIfInBounds_toArray, set_cons_zero, set_cons_succ]); have tk7 := hidp trivial) | (clear tk7; (go_at_call 27; refine (r1.out _).mono ?_; rintro x9 _ ⟨rfl, hb⟩; replace H := hidp (H.out.call hb); replace HS := hidp (HS.out.to hb); replace HT := hidp (HT.out.to hb); replace HX := hidp (HX.out.to hb); clear hb r1); (try simp only [Act.put, setIfInBounds_toArray, set_cons_zero, set_cons_succ]); have tk8 := hidp trivial) | (clear tk8; (go_at_call 26; refine (s2.out _ _ HT.out (HI.out.below H.out.below (Nat.le_refl _))).mono ?_; rintro x9 _ ⟨v4, rfl, hc9, hb⟩; replace H := hidp (H.out.call hb); replace HS := hidp (HS.out.to hb); replace HT := hidp (HT.out.to hb); replace HX := hidp (HX.out.to hb); have HY := hidp hc9; clear hc9 hb s2); (try simp only [Act.put, setIfInBounds_toArray, set_cons_zero, set_cons_succ]); have tk9 := hidp trivial))
            try clear tk9
            exact ⟨⟨i + 1, cs, by go_num, by omega, HOK, HS, HT, H.out.tail⟩, by simp [intOf]; omega⟩
        · rw [set_no hev] at s1
          rw [show evE e = 2 from if_neg hev] at ce
          obtain ⟨E, hE⟩ : ∃ E, setE (cs.map rdC) (rdE e) = E := ⟨_, rfl⟩
          rw [hE] at s2
          by_cases h0 : E = 0
          · subst h0
            clear hE hev h100 heo
            have tk0 := hidp trivial
            go_wp2_with (first | (clear tk0; (refine wpL_idxR tyE rfl (.tmp 20) (.tmp 22) rfl BK off n _ i rfl rfl hlt ?_); (try simp only [Act.put, setIfInBounds_toArray, set_cons_zero, set_cons_succ]); have tk1 := hidp trivial) | (clear tk1; (refine wpL_atR tyE rfl (.tmp 25) rfl BK (off + 6 * i) e.row rfl rfl HRI.out ?_); (try simp only [Act.put, setIfInBounds_toArray, set_cons_zero, set_cons_succ]); have tk2 := hidp trivial) | (clear tk2; (refine Mm.new rtE H (some 8) rfl rfl rfl ?_; clear H; intro b8 _ H nw); (try simp only [Act.put, setIfInBounds_toArray, set_cons_zero, set_cons_succ]); have tk3 := hidp trivial) | (clear tk3; (refine Mm.put0 rtE H rfl (.tmp 8) (.tmp 26) e.row rfl rfl rfl rfl (Ev.one _) rfl ?_; intro _ H2 st; have hb := nput nw st; replace HS := hidp (HS.out.to hb); replace HT := hidp (HT.out.to hb); clear st H nw hb; have H := H2; clear H2); (try simp only [Act.put, setIfInBounds_toArray, set_cons_zero, set_cons_succ]); have tk4 := hidp trivial) | (clear tk4; (refine Mm.get0 rtE H rfl (.tmp 8) rfl rfl rfl ?_); (try simp only [Act.put, setIfInBounds_toArray, set_cons_zero, set_cons_succ]); have tk5 := hidp trivial) | (clear tk5; (go_at_call 26; refine (s1.out _ _ HS.out (HI.out.below H.out.below (Nat.le_refl _))).mono ?_; rintro x9 _ ⟨v3, rfl, hc9, hb⟩; replace H := hidp (H.out.call hb); replace HS := hidp (HS.out.to hb); replace HT := hidp (HT.out.to hb); have HX := hidp hc9; clear hc9 hb s1); (try simp only [Act.put, setIfInBounds_toArray, set_cons_zero, set_cons_succ]); have tk6 := hidp trivial) | (clear tk6; (refine Mm.get0 rtE H rfl (.tmp 8) rfl rfl rfl ?_); (try simp only [Act.put, setIfInBounds_toArray, set_cons_zero, set_cons_succ]); have tk7 := hidp trivial) | (clear tk7; (go_at_call 27; refine (r1.out _).mono ?_; rintro x9 _ ⟨rfl, hb⟩; replace H := hidp (H.out.call hb); replace HS := hidp (HS.out.to hb); replace HT := hidp (HT.out.to hb); replace HX := hidp (HX.out.to hb); clear hb r1); (try simp only [Act.put, setIfInBounds_toArray, set_cons_zero, set_cons_succ]); have tk8 := hidp trivial) | (clear tk8; (go_at_call 26; refine (s2.out _ _ HT.out (HI.out.below H.out.below (Nat.le_refl _))).mono ?_; rintro x9 _ ⟨v4, rfl, hc9, hb⟩; replace H := hidp (H.out.call hb); replace HS := hidp (HS.out.to hb); replace HT := hidp (HT.out.to hb); replace HX := hidp (HX.out.to hb); have HY := hidp hc9; clear hc9 hb s2); (try simp only [Act.put, setIfInBounds_toArray, set_cons_zero, set_cons_succ]); have tk9 := hidp trivial) | (clear tk9; (refine Mm.get0 rtE H rfl (.tmp 8) rfl rfl rfl ?_); (try simp only [Act.put, setIfInBounds_toArray, set_cons_zero, set_cons_succ]); have tk10 := hidp trivial) | (clear tk10; (go_at_call 28; refine (ce.out _ (HI.out.below H.out.below (Nat.le_refl _))).mono ?_; rintro x9 _ ⟨rfl, hb⟩; replace H := hidp (H.out.call hb); replace HS := hidp (HS.out.to hb); replace HT := hidp (HT.out.to hb); replace HX := hidp (HX.out.to hb); replace HY := hidp (HY.out.to hb); clear hb ce); (try simp only [Act.put, setIfInBounds_toArray, set_cons_zero, set_cons_succ]); have tk11 := hidp trivial))
            try clear tk11
            exact ⟨⟨i + 1, cs, by go_num, by omega, HOK, HS, HT, H.out.tail⟩, by simp [intOf]; omega⟩
          · have eE : (E == 0) = false := by simpa using h0
            clear hE hev h100 heo
            have tk0 := hidp trivial
            go_wp2_with (first | (clear tk0; (refine wpL_idxR tyE rfl (.tmp 20) (.tmp 22) rfl BK off n _ i rfl rfl hlt ?_); (try simp only [Act.put, setIfInBounds_toArray, set_cons_zero, set_cons_succ]); have tk1 := hidp trivial) | (clear tk1; (refine wpL_atR tyE rfl (.tmp 25) rfl BK (off + 6 * i) e.row rfl rfl HRI.out ?_); (try simp only [Act.put, setIfInBounds_toArray, set_cons_zero, set_cons_succ]); have tk2 := hidp trivial) | (clear tk2; (refine Mm.new rtE H (some 8) rfl rfl rfl ?_; clear H; intro b8 _ H nw); (try simp only [Act.put, setIfInBounds_toArray, set_cons_zero, set_cons_succ]); have tk3 := hidp trivial) | (clear tk3; (refine Mm.put0 rtE H rfl (.tmp 8) (.tmp 26) e.row rfl rfl rfl rfl (Ev.one _) rfl ?_; intro _ H2 st; have hb := nput nw st; replace HS := hidp (HS.out.to hb); replace HT := hidp (HT.out.to hb); clear st H nw hb; have H := H2; clear H2); (try simp only [Act.put, setIfInBounds_toArray, set_cons_zero, set_cons_succ]); have tk4 := hidp trivial) | (clear tk4; (refine Mm.get0 rtE H rfl (.tmp 8) rfl rfl rfl ?_); (try simp only [Act.put, setIfInBounds_toArray, set_cons_zero, set_cons_succ]); have tk5 := hidp trivial) | (clear tk5; (go_at_call 26; refine (s1.out _ _ HS.out (HI.out.below H.out.below (Nat.le_refl _))).mono ?_; rintro x9 _ ⟨v3, rfl, hc9, hb⟩; replace H := hidp (H.out.call hb); replace HS := hidp (HS.out.to hb); replace HT := hidp (HT.out.to hb); have HX := hidp hc9; clear hc9 hb s1); (try simp only [Act.put, setIfInBounds_toArray, set_cons_zero, set_cons_succ]); have tk6 := hidp trivial) | (clear tk6; (refine Mm.get0 rtE H rfl (.tmp 8) rfl rfl rfl ?_); (try simp only [Act.put, setIfInBounds_toArray, set_cons_zero, set_cons_succ]); have tk7 := hidp trivial) | (clear tk7; (go_at_call 27; refine (r1.out _).mono ?_; rintro x9 _ ⟨rfl, hb⟩; replace H := hidp (H.out.call hb); replace HS := hidp (HS.out.to hb); replace HT := hidp (HT.out.to hb); replace HX := hidp (HX.out.to hb); clear hb r1); (try simp only [Act.put, setIfInBounds_toArray, set_cons_zero, set_cons_succ]); have tk8 := hidp trivial) | (clear tk8; (go_at_call 26; refine (s2.out _ _ HT.out (HI.out.below H.out.below (Nat.le_refl _))).mono ?_; rintro x9 _ ⟨v4, rfl, hc9, hb⟩; replace H := hidp (H.out.call hb); replace HS := hidp (HS.out.to hb); replace HT := hidp (HT.out.to hb); replace HX := hidp (HX.out.to hb); have HY := hidp hc9; clear hc9 hb s2); (try simp only [Act.put, setIfInBounds_toArray, set_cons_zero, set_cons_succ]); have tk9 := hidp trivial))
            try clear tk9
            exact ⟨⟨i + 1, cs, by go_num, by omega, HOK, HS, HT, H.out.tail⟩, by simp [intOf]; omega⟩
    · have e1 : decide ((i : Int) < (n : Int)) = false := by simp; omega
      have k1 := hidp (fun W v h h' => (show Calls Tryd.prog 29 #[v] W fun x w' => x = .returned (.int .i64 0) ∧ Below W.heap.size W w' from by
        have := stCheck_any W v cs h h'
        rw [show ckS cs = 0 from if_pos HOK.out] at this; exact this))
      have k2 := hidp (fun W v h h' => (show Calls Tryd.prog 29 #[v] W fun x w' => x = .returned (.int .i64 0) ∧ Below W.heap.size W w' from by
        have := stCheck_any W v (cs.map rdC) h h'
        rw [show ckS (cs.map rdC) = 0 from if_pos (okS_rd HOK.out)] at this; exact this))
      have m1 := hidp (fun W v h => mem_any W v cs h user)
      have m2 := hidp (fun W v h => mem_any W v (cs.map rdC) h user)
      rw [memS_rd HOK.out user] at m2
      obtain ⟨n1, hn1⟩ : ∃ n1, cs.length = n1 := ⟨_, rfl⟩
      have HN1 := hidp hn1
      have hn256 : n1 ≤ 256 := hn1 ▸ ((okS_iff cs).1 HOK.out).1
      obtain ⟨a5, c5, f5⟩ := HS.out.form
      obtain ⟨a6, c6, f6⟩ := HT.out.form
      rw [hn1] at f5
      rw [List.length_map, hn1] at f6
      subst f5 f6
      clear hn1
      have tk0 := hidp trivial
      go_wp2_with (first | (clear tk0; (go_at_call 29; refine (k1.out _ _ HS.out (HI.out.below H.out.below (Nat.le_refl _))).mono ?_; rintro x9 _ ⟨rfl, hb⟩; replace H := hidp (H.out.call hb); replace HS := hidp (HS.out.to hb); replace HT := hidp (HT.out.to hb); clear hb k1); (try simp only [Act.put, setIfInBounds_toArray, set_cons_zero, set_cons_succ]); have tk1 := hidp trivial) | (clear tk1; (go_at_call 29; refine (k2.out _ _ HT.out (HI.out.below H.out.below (Nat.le_refl _))).mono ?_; rintro x9 _ ⟨rfl, hb⟩; replace H := hidp (H.out.call hb); replace HS := hidp (HS.out.to hb); replace HT := hidp (HT.out.to hb); clear hb k2); (try simp only [Act.put, setIfInBounds_toArray, set_cons_zero, set_cons_succ]); have tk2 := hidp trivial))
      try clear tk2
      have HS0 := HS
      have HT0 := HT
      have HB0 := hidp H.out
      go_loopw [74] (fun t74 wr => ∃ i : Nat, t74 = .int .i64 (i : Int) ∧ i ≤ n1 ∧ Hid (CsAt wr (.slice a5 n1 c5) cs) ∧ Hid (CsAt wr (.slice a6 n1 c6) (cs.map rdC)) ∧ Mm.M w.heap.size w wr []) (fun t74 _ => n1 - (intOf t74).toNat)
      case atStart => exact ⟨0, rfl, by omega, HS0, HT0, HB0.out⟩
      case round =>
        obtain ⟨i, rfl, hi, HS1, HT1, hM⟩ := hrel
        clear H HB0 HS HT HS0 HT0
        have HS := HS1
        have HT := HT1
        have H := hidp hM
        clear hM HS1 HT1
        by_cases hlt : i < n1
        · have e1 : decide ((i : Int) < (n1 : Int)) = true := by simp; omega
          have hgl : i < cs.length := by rw [HN1.out]; exact hlt
          obtain ⟨BK, off, c, e2, -, hBK, hR⟩ := HS.out.get (by omega)
          obtain ⟨BL, ofl, cl, e3, -, hBL, hRL⟩ := HT.out.get (by rw [List.length_map]; omega)
          rw [HN1.out] at e2
          rw [List.length_map, HN1.out] at e3
          simp only [Value.slice.injEq] at e2 e3
          obtain ⟨rfl, -, rfl⟩ := e2
          obtain ⟨rfl, -, rfl⟩ := e3
          obtain ⟨x, hxe⟩ : ∃ x, cs[i] = x := ⟨_, rfl⟩
          have hxm : x ∈ cs := hxe ▸ List.getElem_mem hgl
          have hr1 : wr.rangeAt BK (off + 8 * i) x.row := by rw [← hxe]; exact hR i hgl
          have hr2 : wr.rangeAt BL (ofl + 8 * i) (rdC x).row := by have := hRL i (by rw [List.length_map]; exact hgl); rw [List.getElem_map, hxe] at this; exact this
          have HRE := hidp (ce_ev hr1)
          have HRF := hidp (ce_ev hr2)
          have HGS := hidp (fun W (h : CsAt W (.slice (some ⟨BK, off, none⟩) n1 c5) cs) => ce_cells h hgl hxe)
          have HGT := hidp (fun W (h : CsAt W (.slice (some ⟨BL, ofl, none⟩) n1 c6) (cs.map rdC)) => ce_cells (c := rdC x) h (by rw [List.length_map]; exact hgl) (by rw [List.getElem_map, hxe]))
          have hxo := HS.out.ok x hxm
          have hxv := (vaC_ev (((okS_iff cs).1 HOK.out).2.1 x hxm)).1
          obtain ⟨A, hA⟩ : ∃ A, refH x.e.room x.e.sender x.e.kind x.e.key x.e.body x.e.nonce = A := ⟨_, rfl⟩
          have HA := hidp (show A.length = 32 from by rw [← hA]; exact refH_len ..)
          have p1 := hidp (fun W h1 h2 h3 => ref_ev W x.e hxo.e hxv h1 h2 h3)
          have p2 := hidp (fun W h1 h2 h3 => ref_ev W (rdE x.e) (rdE_ok hxo.e) (rdE_evOk hxv) h1 h2 h3)
          rw [ref_rd hxv, hA] at p2
          rw [hA] at p1
          have qh := fun W => eqin_hd 9998 W A A HA.out HA.out
          rw [decide_eq_true rfl] at qh
          clear hr1 hr2 hR hRL hxe hxm hxo hxv hA hgl hBK hBL
          have tk0 := hidp trivial
          go_wp2_with (first | (clear tk0; (refine wpL_idxR tyC rfl (.tmp 78) (.tmp 79) rfl BK off n1 _ i rfl rfl hlt ?_); (try simp only [Act.put, setIfInBounds_toArray, set_cons_zero, set_cons_succ]); have tk1 := hidp trivial) | (clear tk1; (refine wpL_atR tyE rfl (.tmp 81) rfl BK (off + 8 * i + 2) x.e.row rfl rfl HRE.out ?_); (try simp only [Act.put, setIfInBounds_toArray, set_cons_zero, set_cons_succ]); have tk2 := hidp trivial) | (clear tk2; (go_at_call 30; refine (p1.out _ (HI.out.below H.out.below (Nat.le_refl _)) (HWT.out.below H.out.below (Nat.le_refl _)) (HK.out.below H.out.below HK.out.pos)).mono ?_; rintro x9 _ ⟨rfl, hb⟩; replace H := hidp (H.out.call hb); replace HS := hidp (HS.out.to hb); replace HT := hidp (HT.out.to hb); clear hb p1); (try simp only [Act.put, setIfInBounds_toArray, set_cons_zero, set_cons_succ]); have tk3 := hidp trivial) | (clear tk3; (refine Mm.new rtH H (some 14) rfl rfl rfl ?_; clear H; intro b14 _ H nw); (try simp only [Act.put, setIfInBounds_toArray, set_cons_zero, set_cons_succ]); have tk4 := hidp trivial) | (clear tk4; (refine Mm.put0 rtH H rfl (.tmp 14) (.tmp 84) (u8s A) rfl rfl rfl (by show (u8s A).length = 32; rw [u8s_length]; exact HA.out) (u8_one _) rfl ?_; intro _ H2 st; have hb := nput nw st; replace HS := hidp (HS.out.to hb); replace HT := hidp (HT.out.to hb); clear st H nw hb; have H := H2; clear H2); (try simp only [Act.put, setIfInBounds_toArray, set_cons_zero, set_cons_succ]); have tk5 := hidp trivial) | (clear tk5; (refine wpL_idxR tyC rfl (.tmp 87) (.tmp 88) rfl BL ofl n1 _ i rfl rfl hlt ?_); (try simp only [Act.put, setIfInBounds_toArray, set_cons_zero, set_cons_succ]); have tk6 := hidp trivial) | (clear tk6; (refine wpL_atR tyE rfl (.tmp 90) rfl BL (ofl + 8 * i + 2) (rdE x.e).row rfl rfl (HGT.out _ HT.out).2.2 ?_); (try simp only [Act.put, setIfInBounds_toArray, set_cons_zero, set_cons_succ]); have tk7 := hidp trivial) | (clear tk7; (go_at_call 30; refine (p2.out _ (HI.out.below H.out.below (Nat.le_refl _)) (HWT.out.below H.out.below (Nat.le_refl _)) (HK.out.below H.out.below HK.out.pos)).mono ?_; rintro x9 _ ⟨rfl, hb⟩; replace H := hidp (H.out.call hb); replace HS := hidp (HS.out.to hb); replace HT := hidp (HT.out.to hb); clear hb p2); (try simp only [Act.put, setIfInBounds_toArray, set_cons_zero, set_cons_succ]); have tk8 := hidp trivial) | (clear tk8; (refine Mm.new rtH H (some 16) rfl rfl rfl ?_; clear H; intro b16 _ H nw); (try simp only [Act.put, setIfInBounds_toArray, set_cons_zero, set_cons_succ]); have tk9 := hidp trivial) | (clear tk9; (refine Mm.put0 rtH H rfl (.tmp 16) (.tmp 93) (u8s A) rfl rfl rfl (by show (u8s A).length = 32; rw [u8s_length]; exact HA.out) (u8_one _) rfl ?_; intro _ H2 st; have hb := nput nw st; replace HS := hidp (HS.out.to hb); replace HT := hidp (HT.out.to hb); clear st H nw hb; have H := H2; clear H2); (try simp only [Act.put, setIfInBounds_toArray, set_cons_zero, set_cons_succ]); have tk10 := hidp trivial))
          try clear tk10
          refine regionC H HS.out HT.out (.take 0 (.take 1 (.take 2 (.take 3 (.take 4 (.take 5 (.take 6 (.take 7 (.take 8 (.take 9 (.take 10 (.take 11 (.take 12 (.take 13 (.take 14 (.take 15 (.take 16 (.take 17 (.take 18 (.take 19 (.take 20 (.take 21 (.take 22 (.take 23 (.take 24 (.take 25 (.take 26 (.take 27 (.take 28 (.take 29 (.take 30 (.take 31 (.take 32 (.take 33 (.take 34 (.take 35 (.take 36 .done))))))))))))))))))))))))))))))))))))) (by kernel_rfl) (by kernel_rfl) (by simp [Scr.depth]) (by kernel_rfl) ?_
          clear H HS HT
          intro _ H hs ht
          have HS := hidp hs
          have HT := hidp ht
          clear hs ht
          apply s_val
          case ho | hw => rfl
          case hv => intro w hw; go_simp; first | done | rfl
          simp only [Act.put, getElem_toArray, getElem_cons_zero, getElem_cons_succ, setIfInBounds_toArray, set_cons_zero, set_cons_succ]
          apply s_val
          case ho | hw => rfl
          case hv => intro w hw; go_simp; first | done | rfl
          simp only [Act.put, getElem_toArray, getElem_cons_zero, getElem_cons_succ, setIfInBounds_toArray, set_cons_zero, set_cons_succ]
          refine s_idxR tyC rfl rfl (.tmp 95) (.tmp 96) rfl BK off n1 _ i rfl rfl hlt ?_
          simp only [Act.put, getElem_toArray, getElem_cons_zero, getElem_cons_succ, setIfInBounds_toArray, set_cons_zero, set_cons_succ]
          apply s_val
          case ho | hw => rfl
          case hv => intro w hw; go_simp; first | done | rfl
          simp only [Act.put, getElem_toArray, getElem_cons_zero, getElem_cons_succ, setIfInBounds_toArray, set_cons_zero, set_cons_succ]
          refine Mm.s_ldc naK rfl rfl (.tmp 98) ⟨BK, off + 8 * i, none⟩ (.int .u8 (x.k : Int)) rfl rfl (fun W h => (HGS.out W h.2.1).1) ?_
          simp only [Act.put, getElem_toArray, getElem_cons_zero, getElem_cons_succ, setIfInBounds_toArray, set_cons_zero, set_cons_succ]
          apply s_val
          case ho | hw => rfl
          case hv => intro w hw; go_simp; first | done | rfl
          simp only [Act.put, getElem_toArray, getElem_cons_zero, getElem_cons_succ, setIfInBounds_toArray, set_cons_zero, set_cons_succ]
          apply s_val
          case ho | hw => rfl
          case hv => intro w hw; go_simp; first | done | rfl
          simp only [Act.put, getElem_toArray, getElem_cons_zero, getElem_cons_succ, setIfInBounds_toArray, set_cons_zero, set_cons_succ]
          refine s_idxR tyC rfl rfl (.tmp 100) (.tmp 101) rfl BL ofl n1 _ i rfl rfl hlt ?_
          simp only [Act.put, getElem_toArray, getElem_cons_zero, getElem_cons_succ, setIfInBounds_toArray, set_cons_zero, set_cons_succ]
          apply s_val
          case ho | hw => rfl
          case hv => intro w hw; go_simp; first | done | rfl
          simp only [Act.put, getElem_toArray, getElem_cons_zero, getElem_cons_succ, setIfInBounds_toArray, set_cons_zero, set_cons_succ]
          refine Mm.s_ldc naK rfl rfl (.tmp 103) ⟨BL, ofl + 8 * i, none⟩ (.int .u8 (x.k : Int)) rfl rfl (fun W h => (HGT.out W h.2.2).1) ?_
          simp only [Act.put, getElem_toArray, getElem_cons_zero, getElem_cons_succ, setIfInBounds_toArray, set_cons_zero, set_cons_succ]
          apply s_val
          case ho | hw => rfl
          case hv => intro w hw; go_simp; first | done | rfl
          simp only [Act.put, getElem_toArray, getElem_cons_zero, getElem_cons_succ, setIfInBounds_toArray, set_cons_zero, set_cons_succ]
          apply s_val
          case ho | hw => rfl
          case hv => intro w hw; go_simp; first | done | rfl
          simp only [Act.put, getElem_toArray, getElem_cons_zero, getElem_cons_succ, setIfInBounds_toArray, set_cons_zero, set_cons_succ]
          apply s_val
          case ho | hw => rfl
          case hv => intro w hw; go_simp; first | done | rfl
          simp only [Act.put, getElem_toArray, getElem_cons_zero, getElem_cons_succ, setIfInBounds_toArray, set_cons_zero, set_cons_succ]
          apply s_val
          case ho | hw => rfl
          case hv => intro w hw; go_simp; first | done | rfl
          simp only [Act.put, getElem_toArray, getElem_cons_zero, getElem_cons_succ, setIfInBounds_toArray, set_cons_zero, set_cons_succ]
          refine s_idxR tyC rfl rfl (.tmp 107) (.tmp 108) rfl BK off n1 _ i rfl rfl hlt ?_
          simp only [Act.put, getElem_toArray, getElem_cons_zero, getElem_cons_succ, setIfInBounds_toArray, set_cons_zero, set_cons_succ]
          apply s_val
          case ho | hw => rfl
          case hv => intro w hw; go_simp; first | done | rfl
          simp only [Act.put, getElem_toArray, getElem_cons_zero, getElem_cons_succ, setIfInBounds_toArray, set_cons_zero, set_cons_succ]
          refine Mm.s_ldc naS rfl rfl (.tmp 110) ⟨BK, off + 8 * i + 1, none⟩ (.string x.y) rfl rfl (fun W h => (HGS.out W h.2.1).2.1) ?_
          simp only [Act.put, getElem_toArray, getElem_cons_zero, getElem_cons_succ, setIfInBounds_toArray, set_cons_zero, set_cons_succ]
          apply s_val
          case ho | hw => rfl
          case hv => intro w hw; go_simp; first | done | rfl
          simp only [Act.put, getElem_toArray, getElem_cons_zero, getElem_cons_succ, setIfInBounds_toArray, set_cons_zero, set_cons_succ]
          apply s_val
          case ho | hw => rfl
          case hv => intro w hw; go_simp; first | done | rfl
          simp only [Act.put, getElem_toArray, getElem_cons_zero, getElem_cons_succ, setIfInBounds_toArray, set_cons_zero, set_cons_succ]
          refine s_idxR tyC rfl rfl (.tmp 112) (.tmp 113) rfl BL ofl n1 _ i rfl rfl hlt ?_
          simp only [Act.put, getElem_toArray, getElem_cons_zero, getElem_cons_succ, setIfInBounds_toArray, set_cons_zero, set_cons_succ]
          apply s_val
          case ho | hw => rfl
          case hv => intro w hw; go_simp; first | done | rfl
          simp only [Act.put, getElem_toArray, getElem_cons_zero, getElem_cons_succ, setIfInBounds_toArray, set_cons_zero, set_cons_succ]
          refine Mm.s_ldc naS rfl rfl (.tmp 115) ⟨BL, ofl + 8 * i + 1, none⟩ (.string x.y) rfl rfl (fun W h => (HGT.out W h.2.2).2.1) ?_
          simp only [Act.put, getElem_toArray, getElem_cons_zero, getElem_cons_succ, setIfInBounds_toArray, set_cons_zero, set_cons_succ]
          apply s_val
          case ho | hw => rfl
          case hv => intro w hw; go_simp; first | done | rfl
          simp only [Act.put, getElem_toArray, getElem_cons_zero, getElem_cons_succ, setIfInBounds_toArray, set_cons_zero, set_cons_succ]
          apply s_val
          case ho | hw => rfl
          case hv => intro w hw; go_simp; first | done | rfl
          simp only [Act.put, getElem_toArray, getElem_cons_zero, getElem_cons_succ, setIfInBounds_toArray, set_cons_zero, set_cons_succ]
          apply s_val
          case ho | hw => rfl
          case hv => intro w hw; go_simp; first | done | rfl
          simp only [Act.put, getElem_toArray, getElem_cons_zero, getElem_cons_succ, setIfInBounds_toArray, set_cons_zero, set_cons_succ]
          apply s_val
          case ho | hw => rfl
          case hv => intro w hw; go_simp; first | done | rfl
          simp only [Act.put, getElem_toArray, getElem_cons_zero, getElem_cons_succ, setIfInBounds_toArray, set_cons_zero, set_cons_succ]
          apply s_val
          case ho | hw => rfl
          case hv => intro w hw; go_simp; first | done | rfl
          simp only [Act.put, getElem_toArray, getElem_cons_zero, getElem_cons_succ, setIfInBounds_toArray, set_cons_zero, set_cons_succ]
          apply s_val
          case ho | hw => rfl
          case hv => intro w hw; go_simp; first | done | rfl
          simp only [Act.put, getElem_toArray, getElem_cons_zero, getElem_cons_succ, setIfInBounds_toArray, set_cons_zero, set_cons_succ]
          apply s_val
          case ho | hw => rfl
          case hv => intro w hw; go_simp; first | done | rfl
          simp only [Act.put, getElem_toArray, getElem_cons_zero, getElem_cons_succ, setIfInBounds_toArray, set_cons_zero, set_cons_succ]
          apply s_val
          case ho | hw => rfl
          case hv => intro w hw; go_simp; first | done | rfl
          simp only [Act.put, getElem_toArray, getElem_cons_zero, getElem_cons_succ, setIfInBounds_toArray, set_cons_zero, set_cons_succ]
          apply s_val
          case ho | hw => rfl
          case hv => intro w hw; go_simp; first | done | rfl
          simp only [Act.put, getElem_toArray, getElem_cons_zero, getElem_cons_succ, setIfInBounds_toArray, set_cons_zero, set_cons_succ]
          apply s_val
          case ho | hw => rfl
          case hv => intro w hw; go_simp; first | done | rfl
          simp only [Act.put, getElem_toArray, getElem_cons_zero, getElem_cons_succ, setIfInBounds_toArray, set_cons_zero, set_cons_succ]
          apply s_val
          case ho | hw => rfl
          case hv => intro w hw; go_simp; first | done | rfl
          simp only [Act.put, getElem_toArray, getElem_cons_zero, getElem_cons_succ, setIfInBounds_toArray, set_cons_zero, set_cons_succ]
          refine Mm.sget1 rtH (fun W h => h.1) rfl rfl (.tmp 14) rfl rfl (by show (u8s A).length = 32; rw [u8s_length]; exact HA.out) ?_
          simp only [Act.put, getElem_toArray, getElem_cons_zero, getElem_cons_succ, setIfInBounds_toArray, set_cons_zero, set_cons_succ]
          refine Mm.sget0 rtH (fun W h => h.1) rfl rfl (.tmp 16) rfl rfl (by show (u8s A).length = 32; rw [u8s_length]; exact HA.out) ?_
          simp only [Act.put, getElem_toArray, getElem_cons_zero, getElem_cons_succ, setIfInBounds_toArray, set_cons_zero, set_cons_succ]
          apply s_val
          case ho | hw => rfl
          case hv => intro w hw; go_simp; first | done | rfl
          simp only [Act.put, getElem_toArray, getElem_cons_zero, getElem_cons_succ, setIfInBounds_toArray, set_cons_zero, set_cons_succ]
          apply s_val
          case ho | hw => rfl
          case hv => intro w hw; go_simp; first | done | rfl
          simp only [Act.put, getElem_toArray, getElem_cons_zero, getElem_cons_succ, setIfInBounds_toArray, set_cons_zero, set_cons_succ]
          refine NoPanic.normal ?_
          go_wp2_with fail
          exact ⟨⟨i + 1, by go_num, by omega, HS, HT, H.out.tail.tail⟩, by simp [intOf]; omega⟩
        · have e1 : decide ((i : Int) < (n1 : Int)) = false := by simp; omega
          have tk0 := hidp trivial
          go_wp2_with (first | (clear tk0; (go_at_call 31; refine (m1.out _ _ HS.out).mono ?_; rintro x9 _ ⟨rfl, hb⟩; replace H := hidp (H.out.call hb); replace HS := hidp (HS.out.to hb); replace HT := hidp (HT.out.to hb); clear hb m1); (try simp only [Act.put, setIfInBounds_toArray, set_cons_zero, set_cons_succ]); have tk1 := hidp trivial) | (clear tk1; (go_at_call 31; refine (m2.out _ _ HT.out).mono ?_; rintro x9 _ ⟨rfl, hb⟩; replace H := hidp (H.out.call hb); replace HS := hidp (HS.out.to hb); replace HT := hidp (HT.out.to hb); clear hb m2); (try simp only [Act.put, setIfInBounds_toArray, set_cons_zero, set_cons_succ]); have tk2 := hidp trivial))
          try clear tk2
          go_ret
          exact ⟨rfl, H.out.below⟩
end Go.Proofs.YtfenjincbhkodaaDoor.Tl
