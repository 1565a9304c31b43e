/-
  The document's boxes: Due.
-/
import Derived.Test.YtokakgjcegmabaaPoU
namespace Go.Proofs.Ytokakgjcegmabaa.Po
set_option maxRecDepth 100000
set_option linter.unusedVariables false
set_option linter.unusedSimpArgs false
open Go.RowKit
open List (getElem_toArray getElem_cons_zero getElem_cons_succ setIfInBounds_toArray set_cons_zero set_cons_succ)

open Go.Conc Go.Shelf Rw
set_option maxHeartbeats 8000000 in
theorem rdue_no (w : World) (room gap : Int) (v : Value) (last lost : Int) (hone : v.oneCell' = true) (now : Int) (h : nowOk now = false) : Calls Try.prog 27 #[.agg (dR room gap v last lost).toArray, .int .i64 now] w fun e w' => e = .returned (.tuple #[.agg (dR room gap v last lost).toArray, .slice none 0 0]) ∧ Below w.heap.size w w' := by
  have H := hidp (Mm.M.nil w)
  by_cases h1 : now < 0
  · have e1 : decide (now < 0) = true := decide_eq_true h1
    go_enter Try.func27, Try.ntmps27
    have tk0 := hidp trivial
    go_wp2_with (first | (clear tk0; (refine Mm.box 54 H rfl (.tmp 0) rfl (dR room gap v last lost) rfl ?_; clear H; intro b2 _ H nw; have hb := nw.below; clear hb nw); (try simp only [Act.put, setIfInBounds_toArray, set_cons_zero, set_cons_succ]); have tk1 := hidp trivial) | (clear tk1; (refine Mm.new rtD H (some 4) rfl rfl rfl ?_; clear H; intro b4 _ H nw; have hb := nw.below; clear hb nw); (try simp only [Act.put, setIfInBounds_toArray, set_cons_zero, set_cons_succ]); have tk2 := hidp trivial) | (clear tk2; (refine Mm.get1 rtD H rfl (.tmp 2) rfl rfl rfl ?_); (try simp only [Act.put, setIfInBounds_toArray, set_cons_zero, set_cons_succ]); have tk3 := hidp trivial) | (clear tk3; (refine Mm.put0 rtD H rfl (.tmp 4) (.tmp 15) (dR room gap v last lost) rfl rfl rfl rfl (dR_one hone) rfl ?_; intro _ H2 st; clear st H; have H := H2; clear H2); (try simp only [Act.put, setIfInBounds_toArray, set_cons_zero, set_cons_succ]); have tk4 := hidp trivial))
    try clear tk4
    refine bodyPost_ret (Mm.ret_rowv rtD Try.results27 _ b4 _ _ rfl rfl H.out.at0 rfl) rfl ⟨rfl, H.out.below⟩
  · have e1 : decide (now < 0) = false := decide_eq_false h1
    have e2 : decide (1099511627776 < now) = true := decide_eq_true (by simp [nowOk] at h; omega)
    go_enter Try.func27, Try.ntmps27
    have tk0 := hidp trivial
    go_wp2_with (first | (clear tk0; (refine Mm.box 54 H rfl (.tmp 0) rfl (dR room gap v last lost) rfl ?_; clear H; intro b2 _ H nw; have hb := nw.below; clear hb nw); (try simp only [Act.put, setIfInBounds_toArray, set_cons_zero, set_cons_succ]); have tk1 := hidp trivial) | (clear tk1; (refine Mm.new rtD H (some 4) rfl rfl rfl ?_; clear H; intro b4 _ H nw; have hb := nw.below; clear hb nw); (try simp only [Act.put, setIfInBounds_toArray, set_cons_zero, set_cons_succ]); have tk2 := hidp trivial) | (clear tk2; (refine Mm.get1 rtD H rfl (.tmp 2) rfl rfl rfl ?_); (try simp only [Act.put, setIfInBounds_toArray, set_cons_zero, set_cons_succ]); have tk3 := hidp trivial) | (clear tk3; (refine Mm.put0 rtD H rfl (.tmp 4) (.tmp 15) (dR room gap v last lost) rfl rfl rfl rfl (dR_one hone) rfl ?_; intro _ H2 st; clear st H; have H := H2; clear H2); (try simp only [Act.put, setIfInBounds_toArray, set_cons_zero, set_cons_succ]); have tk4 := hidp trivial))
    try clear tk4
    refine bodyPost_ret (Mm.ret_rowv rtD Try.results27 _ b4 _ _ rfl rfl H.out.at0 rfl) rfl ⟨rfl, H.out.below⟩

/-- The document's row behind i rounds. -/
def curI (now gap : Int) (L : List Lt) (rest : List Value) (i : Nat) : List Value := (ones ((L.take i).map (mkF now gap) ++ L.drop i)).flatten ++ rest
theorem split4 {now gap : Int} {L : List Lt} {rest : List Value} {i : Nat} {x : Lt} (h : i < L.length) (hx : L[i] = x) : curI now gap L rest i = (ones ((L.take i).map (mkF now gap))).flatten ++ (x.one4 ++ ((ones (L.drop (i + 1))).flatten ++ rest)) := by
  unfold curI
  rw [List.drop_eq_getElem_cons h, hx]
  simp [ones]
theorem split4s {now gap : Int} {L : List Lt} {rest : List Value} {i : Nat} {x : Lt} (h : i < L.length) (hx : L[i] = x) : curI now gap L rest (i + 1) = (ones ((L.take i).map (mkF now gap))).flatten ++ ((mkF now gap x).one4 ++ ((ones (L.drop (i + 1))).flatten ++ rest)) := by
  unfold curI
  rw [List.take_add_one, List.getElem?_eq_getElem h, hx]
  simp [ones]
theorem pre_len {now gap : Int} {L : List Lt} {i : Nat} (h : i < L.length) : ((ones ((L.take i).map (mkF now gap))).flatten).length = 4 * i := by
  rw [flat_len (ones_all _), ones_len, List.length_map, List.length_take]; omega
theorem cur_row {now gap : Int} {L : List Lt} {rest : List Value} {i g : Nat} {x : Lt} {W : World} (h : i < L.length) (hx : L[i] = x) (ha : Arr W g 92 (curI now gap L rest i)) : W.rangeAt g (0 + 4 * i) x.one4 := by
  have hr := ha.range
  rw [split4 h hx] at hr
  have h2 := (rAt_app.1 hr).2
  rw [pre_len h] at h2
  exact (rAt_app.1 h2).1
theorem cur_len {now gap : Int} {L : List Lt} {rest : List Value} {i : Nat} (h : i < L.length) : 4 * i + 3 < (curI now gap L rest i).length := by
  rw [split4 h rfl, List.length_append, pre_len h, List.length_append]
  simp [Lt.one4]; omega
theorem cur_due {now gap : Int} {L : List Lt} {rest : List Value} {i : Nat} {x : Lt} (h : i < L.length) (hx : L[i] = x) (hd : dueB x now gap = true) :
    mls ((L.take (i + 1)).filter fun x => dueB x now gap) = mls ((L.take i).filter fun x => dueB x now gap) ++ [x.mail] ∧ curI now gap L rest (i + 1) = (curI now gap L rest i).set (4 * i + 3) (.int .i64 now) := by
  constructor
  · rw [List.take_add_one, List.getElem?_eq_getElem h, hx, List.filter_append]; simp [hd, mls]
  · rw [split4s h hx, split4 h hx, List.set_append_right _ _ (by rw [pre_len h]; omega), pre_len h, show 4 * i + 3 - 4 * i = 3 from by omega]
    rw [show mkF now gap x = mkD x now from by unfold mkF; rw [if_pos hd]]
    rfl
theorem cur_not {now gap : Int} {L : List Lt} {rest : List Value} {i : Nat} {x : Lt} (h : i < L.length) (hx : L[i] = x) (hd : dueB x now gap = false) :
    mls ((L.take (i + 1)).filter fun x => dueB x now gap) = mls ((L.take i).filter fun x => dueB x now gap) ∧ curI now gap L rest (i + 1) = curI now gap L rest i := by
  constructor
  · rw [List.take_add_one, List.getElem?_eq_getElem h, hx, List.filter_append]; simp [hd]
  · rw [split4s h hx, split4 h hx, show mkF now gap x = x from by unfold mkF; rw [if_neg (by rw [hd]; exact Bool.false_ne_true)]]
theorem cur_split {L : List Lt} {cur : List Value} (h : cur.take (4 * (ones L).length) = (ones L).flatten) : ∃ rest, (ones L).flatten ++ rest = cur := ⟨_, by rw [← h]; exact List.take_append_drop _ _⟩
theorem rs_cur {W : World} {g n cg : Nat} {L : List Lt} {rest : List Value} (ha : Arr W g 92 ((ones L).flatten ++ rest)) (hn : L.length = n) (hc : n ≤ cg) : Ts 92 4 W (.slice (some ⟨g, 0, none⟩) n cg) (ones L) :=
  ⟨ones_all L, .inr ⟨g, 0, cg, _, _, by rw [ones_len, hn], by rw [ones_len, hn]; exact hc, ha, (rAt_app.1 ha.range).1⟩⟩
theorem blkN {T k : Nat} {w : World} {B : Nat} {v : Value} {es : List (List Value)} (h : OwnR T k w B v es) (hne : v ≠ .slice none 0 0) :
    ∃ g cap cur, v = .slice (some ⟨g, 0, none⟩) es.length cap ∧ B ≤ g ∧ Arr w g T cur ∧ es.length ≤ cap ∧ cap ≤ maxLen ∧ cur.length = cap * k ∧ cur.take (k * es.length) = es.flatten := by
  rcases h.2.2 with ⟨h0, _⟩ | ⟨g, cap, cur, e, hB, hg, h1, h2, h3, h4⟩
  · exact absurd h0 hne
  · exact ⟨g, cap, cur.toList, e, hB, by unfold Arr; simpa using hg, h1, h2, by simpa using h3, by rw [Nat.mul_comm]; exact h4⟩
theorem wpL_appN {P : Program} {ST T k by_ : Nat} {z : List Value} {ops : Array Oper} {rest : List Oper} {o : Oper} {a : Act} {w : World} {Q : Exit → Act → World → Prop} (R : RowTy P ST T k by_ z) (hgd : o.guard = none) (s x : Operand) (ho : o.op = .call { callee := .builtin .append, args := #[s, x], argTypes := #[ST, ST] }) (B : Nat) (v u : Value) (es fs : List (List Value))
    (hv : a.eval s = v) (hx : a.eval x = u) (hown : OwnR T k w B v es) (hne : v ≠ .slice none 0 0) (hu : RsAt k w u fs) (h1 : One1 fs) (hB : B ≤ w.heap.size) (hn : es.length + fs.length ≤ 1048576)
    (h : ∀ v' W, OwnR T k W B v' (es ++ fs) → v' ≠ .slice none 0 0 → Below B w W → wpList P ops Q rest (a.put o.dst v') W) : wpList P ops Q (o :: rest) a w := by
  obtain ⟨i0, hi, hz0, hz1, hz2⟩ := info_parts R.info
  rcases hu.2 with ⟨rfl, rfl⟩ | ⟨g, off, c, rfl, hc, hg, hr⟩
  · exact wpL_appRun hgd s x ST ST ho v _ hv hx (run_append_owned_none w B ST o.type T i0 k R.us hi v es.length es.flatten hown.2) (h v w (by simpa using hown) hne (Below.refl _ _))
  · have hb := R.bm
    have h2 : (es.length + fs.length) * by_ ≤ 1048576 * 65536 := Nat.mul_le_mul hn hb
    obtain ⟨v', w', hrun, r1, r2, r3, -⟩ := run_append_own_at (P := P) (w := w) B ST o.type T i0 _ k by_ R.us hi hz0 hz1 hz2 (by simp [Value.cells, R.zl]) R.kp v es.length es.flatten hown.2 ⟨g, off, none⟩ fs.length c fs.flatten (by rw [flat_len hu.1, Nat.mul_comm])
      (fun j u hj => by rw [addr_addR]; exact hr j u hj) h1.flat (by unfold maxLen; omega) (by omega) hB
    refine wpL_appRun hgd s x ST ST ho v _ hv hx hrun (h v' w' ⟨hown.1.app hu.1, ?_⟩ (fun e => hne ((r3.1 e).1)) ((Below.refl B w).grown r2 hB fun k hk => (World.ownsRow.lt hown.2 k hk).1))
    rw [List.length_append, List.flatten_append]; exact r1
set_option maxHeartbeats 32000000 in
theorem rdue_any (w : World) (room gap : Int) (v : Value) (L : List Lt) (hv : RsAt 4 w v (ones L)) (hL : L.length ≤ 1048575) (hat : ∀ x ∈ L, 0 ≤ x.at_ ∧ x.at_ ≤ 1099511627776) (last lost : Int) (now : Int) (h : nowOk now = true) : Calls Try.prog 27 #[.agg (dR room gap v last lost).toArray, .int .i64 now] w fun e w' => ∃ v' u', e = .returned (.tuple #[.agg (dR room gap v' last lost).toArray, u']) ∧ Ts 92 4 w' v' (ones (L.map (mkF now gap))) ∧ OwnR 75 3 w' w.heap.size u' (mls (L.filter fun x => dueB x now gap)) ∧ Below w.heap.size w w' := by
  have HV := hidp hv
  have H := hidp (Mm.M.nil w)
  have hn : 0 ≤ now ∧ now ≤ 1099511627776 := by simp [nowOk] at h; omega
  have e1 : decide (now < 0) = false := decide_eq_false (by omega)
  have e2 : decide (1099511627776 < now) = false := decide_eq_false (by omega)
  have hlen : L.length ≤ 1048576 := by omega
  obtain ⟨a, cv, hva⟩ := hv.form
  rw [ones_len] at hva
  obtain ⟨n, hnL⟩ : ∃ n, L.length = n := ⟨_, rfl⟩
  have HN := hidp hnL
  rw [hnL] at hva hL
  subst hva
  clear hv h hnL
  go_enter Try.func27, Try.ntmps27
  have tk0 := hidp trivial
  go_wp2_with (first | (clear tk0; (refine Mm.box 54 H rfl (.tmp 0) rfl (dR room gap (.slice a n cv) last lost) rfl ?_; clear H; intro b2 _ H nw; have hb := nw.below; clear hb nw); (try simp only [Act.put, setIfInBounds_toArray, set_cons_zero, set_cons_succ]); have tk1 := hidp trivial) | (clear tk1; (refine Mm.new rtD H (some 4) rfl rfl rfl ?_; clear H; intro b4 _ H nw; have hb := nw.below; clear hb nw); (try simp only [Act.put, setIfInBounds_toArray, set_cons_zero, set_cons_succ]); have tk2 := hidp trivial) | (clear tk2; (refine wpL_bs0 ty1 rfl rfl ?_; intro g0 _ nw; have HO0 := hidp (OwnR.empty (k := 4) nw.arr nw.le); have HB0 := H; have HBX := hidp nw.below; replace H := hidp (H.out.call nw.below); clear nw); (try simp only [Act.put, setIfInBounds_toArray, set_cons_zero, set_cons_succ]); have tk3 := hidp trivial) | (clear tk3; (refine Mm.ld1 na1S H rfl (.tmp 17) 2 (.slice a n cv) rfl rfl rfl ?_); (try simp only [Act.put, setIfInBounds_toArray, set_cons_zero, set_cons_succ]); have tk4 := hidp trivial) | (clear tk4; (refine wpL_appN ty1 rfl (.tmp 16) (.tmp 18) rfl _ (.slice (some ⟨g0, 0, none⟩) 0 0) (.slice a n cv) [] (ones L) rfl rfl HO0.out (by simp) (HV.out.to H.out.below) (ones_one L) HBX.out.size (by rw [ones_len]; simpa using hlen) ?_; intro v19 _ ho hne hb; obtain ⟨g, cg, cur, rfl, hBg, ha, hc1, hc2, hc3, hc4⟩ := blkN (show OwnR 92 4 _ _ v19 (ones L) from by simpa using ho) hne; rw [ones_len, HN.out] at hc1 ⊢; replace HBX := hidp (HBX.out.trans hb); clear H HO0; have H := hidp (Mm.M.add (m := 0) HB0.out HBX.out hBg ha); obtain ⟨rest, hrest⟩ := cur_split hc4; subst hrest; have HC := hidp hc1; clear ho hne hb hBg ha hc1 hc2 hc3 hc4); (try simp only [Act.put, setIfInBounds_toArray, set_cons_zero, set_cons_succ]); have tk5 := hidp trivial) | (clear tk5; (refine Mm.putF2 H rfl 52 (.tmp 20) (.tmp 19) 2 (.slice (some ⟨g, 0, none⟩) n cg) rfl rfl rfl (by kernel_rfl) rfl (of_decide_eq_true rfl) ?_; intro _ H2 st; clear st H; have H : Hid (Mm.M w.heap.size w _ ([⟨g, 92, (ones L).flatten ++ rest⟩, ⟨b4, 54, zD⟩, ⟨b2, 54, (dR room gap (.slice (some ⟨g, 0, none⟩) n cg) last lost)⟩])) := H2; clear H2); (try simp only [Act.put, setIfInBounds_toArray, set_cons_zero, set_cons_succ]); have tk6 := hidp trivial) | (clear tk6; (refine Mm.ld2 na1S H rfl (.tmp 21) 2 (.slice (some ⟨g, 0, none⟩) n cg) rfl rfl rfl ?_); (try simp only [Act.put, setIfInBounds_toArray, set_cons_zero, set_cons_succ]); have tk7 := hidp trivial))
  try clear tk7
  have HM0 := hidp H.out
  go_loopw [6, 24] (fun t6 t24 wr => ∃ (i : Nat) (v6 : Value), t24 = .int .i64 (i : Int) ∧ v6 = t6 ∧ i ≤ n ∧ OwnR 75 3 wr w.heap.size v6 (mls ((L.take i).filter fun x => dueB x now gap)) ∧ Mm.M w.heap.size w wr [⟨g, 92, curI now gap L rest i⟩, ⟨b4, 54, zD⟩, ⟨b2, 54, dR room gap (.slice (some ⟨g, 0, none⟩) n cg) last lost⟩]) (fun _ t24 _ => n - (intOf t24).toNat)
  case atStart => exact ⟨0, _, rfl, rfl, by omega, by rw [List.take_zero]; exact OwnR.nil _ _, by rw [show curI now gap L rest 0 = (ones L).flatten ++ rest from by simp [curI]]; exact HM0.out⟩
  case round =>
    obtain ⟨i, v6, rfl, rfl, hi, ho, hm⟩ := hrel
    have HO := hidp ho
    clear H HM0
    have H := hidp hm
    clear ho hm
    by_cases hlt : i < n
    · have e1 : decide ((i : Int) < (n : Int)) = true := by simp; omega
      have hgl : i < L.length := by rw [HN.out]; exact hlt
      obtain ⟨x, hge⟩ : ∃ x, L[i] = x := ⟨_, rfl⟩
      obtain ⟨A, hAx⟩ : ∃ A, atD x = A := ⟨_, rfl⟩
      have hrow := fun {W : World} (h : Arr W g 92 (curI now gap L rest i)) => (show W.rangeAt g (0 + 4 * i) [.int .i64 x.id, .int .i64 x.to, .string x.tx, .int .i64 A] from by rw [← hAx]; exact cur_row hgl hge h)
      have hcl : 4 * i + 3 < (curI now gap L rest i).length := cur_len hgl
      have hml := hidp (show (mls ((L.take i).filter fun x => dueB x now gap)).length + 1 ≤ 1048576 from by rw [mls_len]; have h1 := List.length_filter_le (fun x => dueB x now gap) (L.take i); rw [List.length_take] at h1; have := HN.out; omega)
      have hX41 : ∀ v ∈ ([.int .i64 x.id, .int .i64 x.to, .string x.tx, .int .i64 A] : List Value), v.oneCell' = true := by rw [← hAx]; exact x.one41
      have mailX := fun {W : World} {b : Nat} (h : Arr W b 92 [.int .i64 x.id, .int .i64 x.to, .string x.tx, .int .i64 A]) => (show W.rangeAt b 0 x.mail from mailAt4 x (by unfold Lt.one4; rw [hAx]; exact h))
      obtain ⟨cur, hcur⟩ : ∃ z, curI now gap L rest i = z := ⟨_, rfl⟩
      rw [hcur] at H hcl
      simp only [hcur] at hrow
      cases hs : x.sent with
      | false =>
        have hA := show A = -1 from by rw [← hAx]; unfold atD; rw [hs]; rfl
        have hd : dueB x now gap = true := by unfold dueB; rw [hs]; rfl
        have HS := hidp (cur_due (rest := rest) hgl hge hd)
        have ea : decide (A < 0) = true := decide_eq_true (by omega)
        rw [hcur] at HS
        clear hs hd hA hgl hge hAx hcur
        have tk0 := hidp trivial
        go_wp2_with (first | (clear tk0; (refine wpL_idxR ty1 rfl (.tmp 22) (.tmp 24) rfl g 0 n _ i rfl rfl hlt ?_); (try simp only [Act.put, setIfInBounds_toArray, set_cons_zero, set_cons_succ]); have tk1 := hidp trivial) | (clear tk1; (refine wpL_atR ty1 rfl (.tmp 27) rfl g (0 + 4 * i) [.int .i64 x.id, .int .i64 x.to, .string x.tx, .int .i64 A] rfl rfl (hrow H.out.at0) ?_); (try simp only [Act.put, setIfInBounds_toArray, set_cons_zero, set_cons_succ]); have tk2 := hidp trivial) | (clear tk2; (refine Mm.new rt1 H (some 8) rfl rfl rfl ?_; clear H; intro b8 _ H nw; have hb := nw.below; replace HO := hidp (HO.out.to hb (Nat.le_refl _)); clear hb nw); (try simp only [Act.put, setIfInBounds_toArray, set_cons_zero, set_cons_succ]); have tk3 := hidp trivial) | (clear tk3; (refine Mm.put0 rt1 H rfl (.tmp 8) (.tmp 28) [.int .i64 x.id, .int .i64 x.to, .string x.tx, .int .i64 A] rfl rfl rfl rfl hX41 rfl ?_; intro _ H2 st; replace HO := hidp (OwnR.stpR HO.out st H.out.at0 (by decide)); clear st H; have H := H2; clear H2); (try simp only [Act.put, setIfInBounds_toArray, set_cons_zero, set_cons_succ]); have tk4 := hidp trivial) | (clear tk4; (refine Mm.ld0 naI64 H rfl (.tmp 29) 3 (.int .i64 A) rfl rfl rfl ?_); (try simp only [Act.put, setIfInBounds_toArray, set_cons_zero, set_cons_succ]); have tk5 := hidp trivial) | (clear tk5; (refine wpL_mid rtM rfl (.tmp 48) b8 0 x.mail rfl rfl rfl (mailX H.out.at0) ?_); (try simp only [Act.put, setIfInBounds_toArray, set_cons_zero, set_cons_succ]); have tk6 := hidp trivial) | (clear tk6; (refine wpL_bs1R tyM rfl _ rfl x.mail rfl rfl ?_; intro g1 _ nw; have HG := hidp nw.arr; replace HO := hidp (HO.out.to nw.below (Nat.le_refl _)); replace H := hidp (H.out.call nw.below); clear nw); (try simp only [Act.put, setIfInBounds_toArray, set_cons_zero, set_cons_succ]); have tk7 := hidp trivial) | (clear tk7; (refine wpL_app1R tyM rfl (.tmp 47) (.tmp 50) rfl w.heap.size g1 v6 (mls ((L.take i).filter fun x => dueB x now gap)) x.mail rfl rfl HO.out HG.out (Lt.mone x) rfl H.out.below.size hml.out ?_; intro v2 W2 ho2 hg2; replace H := hidp (grownM H.out HO.out hg2 (Nat.le_refl _) (by intro x hx; simp at hx; rcases hx with rfl | rfl | rfl | rfl <;> first | exact (show 54 ≠ 75 from by decide) | exact (show 92 ≠ 75 from by decide))); clear HO HG; have HO := hidp ho2; clear ho2 hg2); (try simp only [Act.put, setIfInBounds_toArray, set_cons_zero, set_cons_succ]); have tk8 := hidp trivial) | (clear tk8; (refine Mm.ld3 na1S H rfl (.tmp 52) 2 (.slice (some ⟨g, 0, none⟩) n cg) rfl rfl rfl ?_); (try simp only [Act.put, setIfInBounds_toArray, set_cons_zero, set_cons_succ]); have tk9 := hidp trivial) | (clear tk9; (refine wpL_idxR ty1 rfl (.tmp 53) (.tmp 54) rfl g 0 n _ i rfl rfl hlt ?_); (try simp only [Act.put, setIfInBounds_toArray, set_cons_zero, set_cons_succ]); have tk10 := hidp trivial) | (clear tk10; (refine Rt.wpL_putF rfl 2 (.tmp 57) (.tmp 55) rfl g (4 * i + 3) (.int .i64 now) rfl rfl (by kernel_rfl) rfl cur H.out.at1 hcl ?_; intro W9 ha9 st9; replace HO := hidp (OwnR.stpR HO.out st9 H.out.at1 (by decide)); replace H := hidp (H.out.put 1 g 92 _ _ rfl ha9 st9); clear ha9 st9); (try simp only [Act.put, setIfInBounds_toArray, set_cons_zero, set_cons_succ]); have tk11 := hidp trivial))
        try clear tk11
        try simp only [List.set_cons_succ, List.set_cons_zero] at H
        exact ⟨⟨i + 1, _, by go_num, rfl, by omega, by rw [HS.out.1]; exact HO.out, by rw [HS.out.2]; exact H.out.tail⟩, by simp [intOf]; omega⟩
      | true =>
        have hA := show A = x.at_ from by rw [← hAx]; unfold atD; rw [hs]; rfl
        have h0 := (hat x (by rw [← hge]; exact List.getElem_mem hgl))
        have ea : decide (A < 0) = false := decide_eq_false (by omega)
        have hw := show IntKind.i64.wrap (now - A) = now - A from by rw [IntKind.wrap_i64]; omega
        by_cases h1 : gap ≤ now - A
        · have eb : decide (gap ≤ now - A) = true := decide_eq_true h1
          have hd : dueB x now gap = true := by unfold dueB; rw [hs, ← hA, eb]; rfl
          have HS := hidp (cur_due (rest := rest) hgl hge hd)
          rw [hcur] at HS
          clear hs hd hA hgl hge hAx h0 h1 hcur
          have tk0 := hidp trivial
          go_wp2_with (first | (clear tk0; (refine wpL_idxR ty1 rfl (.tmp 22) (.tmp 24) rfl g 0 n _ i rfl rfl hlt ?_); (try simp only [Act.put, setIfInBounds_toArray, set_cons_zero, set_cons_succ]); have tk1 := hidp trivial) | (clear tk1; (refine wpL_atR ty1 rfl (.tmp 27) rfl g (0 + 4 * i) [.int .i64 x.id, .int .i64 x.to, .string x.tx, .int .i64 A] rfl rfl (hrow H.out.at0) ?_); (try simp only [Act.put, setIfInBounds_toArray, set_cons_zero, set_cons_succ]); have tk2 := hidp trivial) | (clear tk2; (refine Mm.new rt1 H (some 8) rfl rfl rfl ?_; clear H; intro b8 _ H nw; have hb := nw.below; replace HO := hidp (HO.out.to hb (Nat.le_refl _)); clear hb nw); (try simp only [Act.put, setIfInBounds_toArray, set_cons_zero, set_cons_succ]); have tk3 := hidp trivial) | (clear tk3; (refine Mm.put0 rt1 H rfl (.tmp 8) (.tmp 28) [.int .i64 x.id, .int .i64 x.to, .string x.tx, .int .i64 A] rfl rfl rfl rfl hX41 rfl ?_; intro _ H2 st; replace HO := hidp (OwnR.stpR HO.out st H.out.at0 (by decide)); clear st H; have H := H2; clear H2); (try simp only [Act.put, setIfInBounds_toArray, set_cons_zero, set_cons_succ]); have tk4 := hidp trivial) | (clear tk4; (refine Mm.ld0 naI64 H rfl (.tmp 29) 3 (.int .i64 A) rfl rfl rfl ?_); (try simp only [Act.put, setIfInBounds_toArray, set_cons_zero, set_cons_succ]); have tk5 := hidp trivial) | (clear tk5; (refine Mm.ld0 naI64 H rfl (.tmp 34) 3 (.int .i64 A) rfl rfl rfl ?_); (try simp only [Act.put, setIfInBounds_toArray, set_cons_zero, set_cons_succ]); have tk6 := hidp trivial) | (clear tk6; (refine Mm.ld3 naI64 H rfl (.tmp 37) 1 (.int .i64 gap) rfl rfl rfl ?_); (try simp only [Act.put, setIfInBounds_toArray, set_cons_zero, set_cons_succ]); have tk7 := hidp trivial) | (clear tk7; (refine wpL_mid rtM rfl (.tmp 48) b8 0 x.mail rfl rfl rfl (mailX H.out.at0) ?_); (try simp only [Act.put, setIfInBounds_toArray, set_cons_zero, set_cons_succ]); have tk8 := hidp trivial) | (clear tk8; (refine wpL_bs1R tyM rfl _ rfl x.mail rfl rfl ?_; intro g1 _ nw; have HG := hidp nw.arr; replace HO := hidp (HO.out.to nw.below (Nat.le_refl _)); replace H := hidp (H.out.call nw.below); clear nw); (try simp only [Act.put, setIfInBounds_toArray, set_cons_zero, set_cons_succ]); have tk9 := hidp trivial) | (clear tk9; (refine wpL_app1R tyM rfl (.tmp 47) (.tmp 50) rfl w.heap.size g1 v6 (mls ((L.take i).filter fun x => dueB x now gap)) x.mail rfl rfl HO.out HG.out (Lt.mone x) rfl H.out.below.size hml.out ?_; intro v2 W2 ho2 hg2; replace H := hidp (grownM H.out HO.out hg2 (Nat.le_refl _) (by intro x hx; simp at hx; rcases hx with rfl | rfl | rfl | rfl <;> first | exact (show 54 ≠ 75 from by decide) | exact (show 92 ≠ 75 from by decide))); clear HO HG; have HO := hidp ho2; clear ho2 hg2); (try simp only [Act.put, setIfInBounds_toArray, set_cons_zero, set_cons_succ]); have tk10 := hidp trivial) | (clear tk10; (refine Mm.ld3 na1S H rfl (.tmp 52) 2 (.slice (some ⟨g, 0, none⟩) n cg) rfl rfl rfl ?_); (try simp only [Act.put, setIfInBounds_toArray, set_cons_zero, set_cons_succ]); have tk11 := hidp trivial) | (clear tk11; (refine wpL_idxR ty1 rfl (.tmp 53) (.tmp 54) rfl g 0 n _ i rfl rfl hlt ?_); (try simp only [Act.put, setIfInBounds_toArray, set_cons_zero, set_cons_succ]); have tk12 := hidp trivial) | (clear tk12; (refine Rt.wpL_putF rfl 2 (.tmp 57) (.tmp 55) rfl g (4 * i + 3) (.int .i64 now) rfl rfl (by kernel_rfl) rfl cur H.out.at1 hcl ?_; intro W9 ha9 st9; replace HO := hidp (OwnR.stpR HO.out st9 H.out.at1 (by decide)); replace H := hidp (H.out.put 1 g 92 _ _ rfl ha9 st9); clear ha9 st9); (try simp only [Act.put, setIfInBounds_toArray, set_cons_zero, set_cons_succ]); have tk13 := hidp trivial))
          try clear tk13
          try simp only [List.set_cons_succ, List.set_cons_zero] at H
          exact ⟨⟨i + 1, _, by go_num, rfl, by omega, by rw [HS.out.1]; exact HO.out, by rw [HS.out.2]; exact H.out.tail⟩, by simp [intOf]; omega⟩
        · have eb : decide (gap ≤ now - A) = false := decide_eq_false h1
          by_cases h2 : now < A
          · have ec : decide (now < A) = true := decide_eq_true h2
            have hd : dueB x now gap = true := by unfold dueB; rw [hs, ← hA, eb, ec]; rfl
            have HS := hidp (cur_due (rest := rest) hgl hge hd)
            rw [hcur] at HS
            clear hs hd hA hgl hge hAx h0 h1 h2 hcur
            have tk0 := hidp trivial
            go_wp2_with (first | (clear tk0; (refine wpL_idxR ty1 rfl (.tmp 22) (.tmp 24) rfl g 0 n _ i rfl rfl hlt ?_); (try simp only [Act.put, setIfInBounds_toArray, set_cons_zero, set_cons_succ]); have tk1 := hidp trivial) | (clear tk1; (refine wpL_atR ty1 rfl (.tmp 27) rfl g (0 + 4 * i) [.int .i64 x.id, .int .i64 x.to, .string x.tx, .int .i64 A] rfl rfl (hrow H.out.at0) ?_); (try simp only [Act.put, setIfInBounds_toArray, set_cons_zero, set_cons_succ]); have tk2 := hidp trivial) | (clear tk2; (refine Mm.new rt1 H (some 8) rfl rfl rfl ?_; clear H; intro b8 _ H nw; have hb := nw.below; replace HO := hidp (HO.out.to hb (Nat.le_refl _)); clear hb nw); (try simp only [Act.put, setIfInBounds_toArray, set_cons_zero, set_cons_succ]); have tk3 := hidp trivial) | (clear tk3; (refine Mm.put0 rt1 H rfl (.tmp 8) (.tmp 28) [.int .i64 x.id, .int .i64 x.to, .string x.tx, .int .i64 A] rfl rfl rfl rfl hX41 rfl ?_; intro _ H2 st; replace HO := hidp (OwnR.stpR HO.out st H.out.at0 (by decide)); clear st H; have H := H2; clear H2); (try simp only [Act.put, setIfInBounds_toArray, set_cons_zero, set_cons_succ]); have tk4 := hidp trivial) | (clear tk4; (refine Mm.ld0 naI64 H rfl (.tmp 29) 3 (.int .i64 A) rfl rfl rfl ?_); (try simp only [Act.put, setIfInBounds_toArray, set_cons_zero, set_cons_succ]); have tk5 := hidp trivial) | (clear tk5; (refine Mm.ld0 naI64 H rfl (.tmp 34) 3 (.int .i64 A) rfl rfl rfl ?_); (try simp only [Act.put, setIfInBounds_toArray, set_cons_zero, set_cons_succ]); have tk6 := hidp trivial) | (clear tk6; (refine Mm.ld3 naI64 H rfl (.tmp 37) 1 (.int .i64 gap) rfl rfl rfl ?_); (try simp only [Act.put, setIfInBounds_toArray, set_cons_zero, set_cons_succ]); have tk7 := hidp trivial) | (clear tk7; (refine Mm.ld0 naI64 H rfl (.tmp 42) 3 (.int .i64 A) rfl rfl rfl ?_); (try simp only [Act.put, setIfInBounds_toArray, set_cons_zero, set_cons_succ]); have tk8 := hidp trivial) | (clear tk8; (refine wpL_mid rtM rfl (.tmp 48) b8 0 x.mail rfl rfl rfl (mailX H.out.at0) ?_); (try simp only [Act.put, setIfInBounds_toArray, set_cons_zero, set_cons_succ]); have tk9 := hidp trivial) | (clear tk9; (refine wpL_bs1R tyM rfl _ rfl x.mail rfl rfl ?_; intro g1 _ nw; have HG := hidp nw.arr; replace HO := hidp (HO.out.to nw.below (Nat.le_refl _)); replace H := hidp (H.out.call nw.below); clear nw); (try simp only [Act.put, setIfInBounds_toArray, set_cons_zero, set_cons_succ]); have tk10 := hidp trivial) | (clear tk10; (refine wpL_app1R tyM rfl (.tmp 47) (.tmp 50) rfl w.heap.size g1 v6 (mls ((L.take i).filter fun x => dueB x now gap)) x.mail rfl rfl HO.out HG.out (Lt.mone x) rfl H.out.below.size hml.out ?_; intro v2 W2 ho2 hg2; replace H := hidp (grownM H.out HO.out hg2 (Nat.le_refl _) (by intro x hx; simp at hx; rcases hx with rfl | rfl | rfl | rfl <;> first | exact (show 54 ≠ 75 from by decide) | exact (show 92 ≠ 75 from by decide))); clear HO HG; have HO := hidp ho2; clear ho2 hg2); (try simp only [Act.put, setIfInBounds_toArray, set_cons_zero, set_cons_succ]); have tk11 := hidp trivial) | (clear tk11; (refine Mm.ld3 na1S H rfl (.tmp 52) 2 (.slice (some ⟨g, 0, none⟩) n cg) rfl rfl rfl ?_); (try simp only [Act.put, setIfInBounds_toArray, set_cons_zero, set_cons_succ]); have tk12 := hidp trivial) | (clear tk12; (refine wpL_idxR ty1 rfl (.tmp 53) (.tmp 54) rfl g 0 n _ i rfl rfl hlt ?_); (try simp only [Act.put, setIfInBounds_toArray, set_cons_zero, set_cons_succ]); have tk13 := hidp trivial) | (clear tk13; (refine Rt.wpL_putF rfl 2 (.tmp 57) (.tmp 55) rfl g (4 * i + 3) (.int .i64 now) rfl rfl (by kernel_rfl) rfl cur H.out.at1 hcl ?_; intro W9 ha9 st9; replace HO := hidp (OwnR.stpR HO.out st9 H.out.at1 (by decide)); replace H := hidp (H.out.put 1 g 92 _ _ rfl ha9 st9); clear ha9 st9); (try simp only [Act.put, setIfInBounds_toArray, set_cons_zero, set_cons_succ]); have tk14 := hidp trivial))
            try clear tk14
            try simp only [List.set_cons_succ, List.set_cons_zero] at H
            exact ⟨⟨i + 1, _, by go_num, rfl, by omega, by rw [HS.out.1]; exact HO.out, by rw [HS.out.2]; exact H.out.tail⟩, by simp [intOf]; omega⟩
          · have ec : decide (now < A) = false := decide_eq_false h2
            have hd : dueB x now gap = false := by unfold dueB; rw [hs, ← hA, eb, ec]; rfl
            have HS := hidp (cur_not (rest := rest) hgl hge hd)
            rw [hcur] at HS
            clear hs hd hA hgl hge hAx h0 h1 h2 hcur
            have tk0 := hidp trivial
            go_wp2_with (first | (clear tk0; (refine wpL_idxR ty1 rfl (.tmp 22) (.tmp 24) rfl g 0 n _ i rfl rfl hlt ?_); (try simp only [Act.put, setIfInBounds_toArray, set_cons_zero, set_cons_succ]); have tk1 := hidp trivial) | (clear tk1; (refine wpL_atR ty1 rfl (.tmp 27) rfl g (0 + 4 * i) [.int .i64 x.id, .int .i64 x.to, .string x.tx, .int .i64 A] rfl rfl (hrow H.out.at0) ?_); (try simp only [Act.put, setIfInBounds_toArray, set_cons_zero, set_cons_succ]); have tk2 := hidp trivial) | (clear tk2; (refine Mm.new rt1 H (some 8) rfl rfl rfl ?_; clear H; intro b8 _ H nw; have hb := nw.below; replace HO := hidp (HO.out.to hb (Nat.le_refl _)); clear hb nw); (try simp only [Act.put, setIfInBounds_toArray, set_cons_zero, set_cons_succ]); have tk3 := hidp trivial) | (clear tk3; (refine Mm.put0 rt1 H rfl (.tmp 8) (.tmp 28) [.int .i64 x.id, .int .i64 x.to, .string x.tx, .int .i64 A] rfl rfl rfl rfl hX41 rfl ?_; intro _ H2 st; replace HO := hidp (OwnR.stpR HO.out st H.out.at0 (by decide)); clear st H; have H := H2; clear H2); (try simp only [Act.put, setIfInBounds_toArray, set_cons_zero, set_cons_succ]); have tk4 := hidp trivial) | (clear tk4; (refine Mm.ld0 naI64 H rfl (.tmp 29) 3 (.int .i64 A) rfl rfl rfl ?_); (try simp only [Act.put, setIfInBounds_toArray, set_cons_zero, set_cons_succ]); have tk5 := hidp trivial) | (clear tk5; (refine Mm.ld0 naI64 H rfl (.tmp 34) 3 (.int .i64 A) rfl rfl rfl ?_); (try simp only [Act.put, setIfInBounds_toArray, set_cons_zero, set_cons_succ]); have tk6 := hidp trivial) | (clear tk6; (refine Mm.ld3 naI64 H rfl (.tmp 37) 1 (.int .i64 gap) rfl rfl rfl ?_); (try simp only [Act.put, setIfInBounds_toArray, set_cons_zero, set_cons_succ]); have tk7 := hidp trivial) | (clear tk7; (refine Mm.ld0 naI64 H rfl (.tmp 42) 3 (.int .i64 A) rfl rfl rfl ?_); (try simp only [Act.put, setIfInBounds_toArray, set_cons_zero, set_cons_succ]); have tk8 := hidp trivial))
            try clear tk8
            exact ⟨⟨i + 1, v6, by go_num, rfl, by omega, by rw [HS.out.1]; exact HO.out, by rw [HS.out.2]; exact H.out.tail⟩, by simp [intOf]; omega⟩
    · have e1 : decide ((i : Int) < (n : Int)) = false := by simp; omega
      have hin : i = L.length := by have := HN.out; omega
      have HX := hidp (show L.take i = L from by rw [hin, List.take_length])
      have HY := hidp (show curI now gap L rest i = (ones (L.map (mkF now gap))).flatten ++ rest from by unfold curI; rw [HX.out, hin, List.drop_length, List.append_nil])
      rw [HX.out] at HO
      rw [HY.out] at H
      clear hin
      have hone : (Value.slice (some ⟨g, 0, none⟩) n cg).oneCell' = true := rfl
      have tk0 := hidp trivial
      go_wp2_with (first | (clear tk0; (refine Mm.get2 rtD H rfl (.tmp 2) rfl rfl rfl ?_); (try simp only [Act.put, setIfInBounds_toArray, set_cons_zero, set_cons_succ]); have tk1 := hidp trivial) | (clear tk1; (refine Mm.put1 rtD H rfl (.tmp 4) (.tmp 59) (dR room gap (.slice (some ⟨g, 0, none⟩) n cg) last lost) rfl rfl rfl rfl (dR_one hone) rfl ?_; intro _ H2 st; replace HO := hidp (OwnR.stpR HO.out st H.out.at1 (by decide)); clear st H; have H := H2; clear H2); (try simp only [Act.put, setIfInBounds_toArray, set_cons_zero, set_cons_succ]); have tk2 := hidp trivial))
      try clear tk2
      refine bodyPost_ret (Mm.ret_rowv rtD Try.results27 _ b4 _ _ rfl rfl H.out.at1 rfl) rfl ⟨_, v6, rfl, rs_cur H.out.at0 (by rw [List.length_map, HN.out]) HC.out, HO.out, H.out.below⟩
end Go.Proofs.Ytokakgjcegmabaa.Po
