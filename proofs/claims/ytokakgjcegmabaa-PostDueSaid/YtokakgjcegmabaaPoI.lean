/-
  post: the mails that are due.
-/
import Derived.Test.YtokakgjcegmabaaPoH
namespace Go.Proofs.Ytokakgjcegmabaa.Po
set_option maxRecDepth 100000
set_option linter.unusedVariables false
set_option linter.unusedSimpArgs false
open Go.RowKit
open List (getElem_toArray getElem_cons_zero getElem_cons_succ setIfInBounds_toArray set_cons_zero set_cons_succ)

open Go.Conc Go.Shelf Rw
attribute [local go_sem] Oper.semAt_some
theorem naPP : Mm.NA Try.prog 49 := ⟨_, Try.underlying49, rfl⟩
/-- A letter that was sent now. -/
def mkD (x : Lt) (now : Int) : Lt := { x with sent := true, at_ := now }
def mkF (now gap : Int) (x : Lt) : Lt := if dueB x now gap = true then mkD x now else x
theorem Ex.below {c b : Nat} {w W W' : World} (h : Ex c b w W) (k : Below W.heap.size W W') : Ex c b w W' :=
  ⟨k.os.trans h.os, k.tape.trans h.tape, k.output.trans h.output, Nat.le_trans h.size k.size, fun j hj hc hb => (k.block j (Nat.lt_of_lt_of_le hj h.size)).trans (h.same j hj hc hb)⟩
theorem Ex.stp {c b B : Nat} {w W W' : World} (h : Ex c b w W) (k : Rt.Stp B W W') (hB : w.heap.size ≤ B) : Ex c b w W' :=
  ⟨(k.below 0 (Nat.zero_le _)).os.trans h.os, (k.below 0 (Nat.zero_le _)).tape.trans h.tape, (k.below 0 (Nat.zero_le _)).output.trans h.output, by rw [k.size]; exact h.size, fun j hj hc hb => (k.other j (by omega)).trans (h.same j hj hc hb)⟩
theorem Kp.stp {c B t : Nat} {lv : Nat → Nat → Prop} {W W' : World} {xs : List Value} (k : Rt.Stp B W W') (ha : Arr W B t xs) (hc : B ≠ c) (hl : ¬ lv B t) : Kp c lv W W' :=
  ⟨by rw [k.size]; exact Nat.le_refl _, k.other c (fun e => hc e.symm), fun j o hj hv => (k.other j (fun e => by subst e; rw [show W.heap[j]? = _ from ha] at hj; cases hj; exact hl hv)).trans hj⟩
theorem KeepsFrom.tr {B : Nat} {X Y Z : World} (h : KeepsFrom B X Y) (k : KeepsFrom B Y Z) : KeepsFrom B X Z := ⟨Nat.le_trans h.size k.size, fun i o hi hk ho => k.same i o hi (h.same i o hi hk ho) ho⟩
def nowOk (now : Int) : Bool := decide (0 ≤ now) && decide (now ≤ 1099511627776)
set_option maxHeartbeats 4000000 in
theorem due_no (w : World) (b : Nat) (now : Int) (h : nowOk now = false) : Calls Try.prog 29 #[(.pointer (some ⟨b, 0, none⟩)), .int .i64 now] w fun e w' => e = .returned (.slice none 0 0) ∧ Below w.heap.size w w' := by
  have H := hidp (Mm.M.nil w)
  by_cases h1 : now < 0
  · have e1 : decide (now < 0) = true := decide_eq_true h1
    go_enter Try.func29, Try.ntmps29
    have tk0 := hidp trivial
    go_wp2_with (first | (clear tk0; (refine Mm.box1 49 H rfl (.tmp 0) rfl (.pointer (some ⟨b, 0, none⟩)) rfl rfl ?_; clear H; intro b2 _ H nw; have hb := nw.below; clear hb nw); (try simp only [Act.put, setIfInBounds_toArray, set_cons_zero, set_cons_succ]); have tk1 := hidp trivial) | (clear tk1; (refine Mm.box1 2 H rfl (.tmp 1) rfl (.int .i64 now) rfl rfl ?_; clear H; intro b3 _ H nw; have hb := nw.below; clear hb nw); (try simp only [Act.put, setIfInBounds_toArray, set_cons_zero, set_cons_succ]); have tk2 := hidp trivial) | (clear tk2; (refine Mm.ld1 naPP H rfl (.tmp 2) 0 (.pointer (some ⟨b, 0, none⟩)) rfl rfl rfl ?_); (try simp only [Act.put, setIfInBounds_toArray, set_cons_zero, set_cons_succ]); have tk3 := hidp trivial) | (clear tk3; (go_at_call 44; refine (known_any _ b).mono ?_; rintro e _ ⟨rfl, rfl⟩); (try simp only [Act.put, setIfInBounds_toArray, set_cons_zero, set_cons_succ]); have tk4 := hidp trivial) | (clear tk4; (refine Mm.putF1 H rfl 49 (.tmp 2) (.tmp 8) 0 (.pointer (some ⟨b, 0, none⟩)) rfl rfl rfl (by kernel_rfl) rfl (of_decide_eq_true rfl) ?_; intro _ H2 st; clear st H; have H : Hid (Mm.M w.heap.size w _ ([⟨b3, 2, [.int .i64 now]⟩, ⟨b2, 49, [.pointer (some ⟨b, 0, none⟩)]⟩])) := H2; clear H2); (try simp only [Act.put, setIfInBounds_toArray, set_cons_zero, set_cons_succ]); have tk5 := hidp trivial) | (clear tk5; (refine Mm.ld0 naI64 H rfl (.tmp 3) 0 (.int .i64 now) rfl rfl rfl ?_); (try simp only [Act.put, setIfInBounds_toArray, set_cons_zero, set_cons_succ]); have tk6 := hidp trivial))
    try clear tk6
    go_ret
    exact ⟨rfl, H.out.below⟩
  · have e1 : decide (now < 0) = false := decide_eq_false h1
    have e2 : decide (1099511627776 < now) = true := decide_eq_true (by simp [nowOk] at h; omega)
    go_enter Try.func29, Try.ntmps29
    have tk0 := hidp trivial
    go_wp2_with (first | (clear tk0; (refine Mm.box1 49 H rfl (.tmp 0) rfl (.pointer (some ⟨b, 0, none⟩)) rfl rfl ?_; clear H; intro b2 _ H nw; have hb := nw.below; clear hb nw); (try simp only [Act.put, setIfInBounds_toArray, set_cons_zero, set_cons_succ]); have tk1 := hidp trivial) | (clear tk1; (refine Mm.box1 2 H rfl (.tmp 1) rfl (.int .i64 now) rfl rfl ?_; clear H; intro b3 _ H nw; have hb := nw.below; clear hb nw); (try simp only [Act.put, setIfInBounds_toArray, set_cons_zero, set_cons_succ]); have tk2 := hidp trivial) | (clear tk2; (refine Mm.ld1 naPP H rfl (.tmp 2) 0 (.pointer (some ⟨b, 0, none⟩)) rfl rfl rfl ?_); (try simp only [Act.put, setIfInBounds_toArray, set_cons_zero, set_cons_succ]); have tk3 := hidp trivial) | (clear tk3; (go_at_call 44; refine (known_any _ b).mono ?_; rintro e _ ⟨rfl, rfl⟩); (try simp only [Act.put, setIfInBounds_toArray, set_cons_zero, set_cons_succ]); have tk4 := hidp trivial) | (clear tk4; (refine Mm.putF1 H rfl 49 (.tmp 2) (.tmp 8) 0 (.pointer (some ⟨b, 0, none⟩)) rfl rfl rfl (by kernel_rfl) rfl (of_decide_eq_true rfl) ?_; intro _ H2 st; clear st H; have H : Hid (Mm.M w.heap.size w _ ([⟨b3, 2, [.int .i64 now]⟩, ⟨b2, 49, [.pointer (some ⟨b, 0, none⟩)]⟩])) := H2; clear H2); (try simp only [Act.put, setIfInBounds_toArray, set_cons_zero, set_cons_succ]); have tk5 := hidp trivial) | (clear tk5; (refine Mm.ld0 naI64 H rfl (.tmp 3) 0 (.int .i64 now) rfl rfl rfl ?_); (try simp only [Act.put, setIfInBounds_toArray, set_cons_zero, set_cons_succ]); have tk6 := hidp trivial) | (clear tk6; (refine Mm.ld0 naI64 H rfl (.tmp 3) 0 (.int .i64 now) rfl rfl rfl ?_); (try simp only [Act.put, setIfInBounds_toArray, set_cons_zero, set_cons_succ]); have tk7 := hidp trivial))
    try clear tk7
    go_ret
    exact ⟨rfl, H.out.below⟩

set_option maxHeartbeats 16000000 in
theorem dueP_any (w : World) (b c cap : Nat) (L : List Lt) (gap last lost : Int) (hp : PostAt w b c cap L gap last lost) (hcap : L.length ≤ cap) (hL : L.length ≤ 1048575) (hx : ∀ x ∈ L, x.tx.size ≤ 140737488351232) (hat : ∀ x ∈ L, 0 ≤ x.at_ ∧ x.at_ ≤ 1099511627776) (now : Int) (h : nowOk now = true) :
    Calls Try.prog 29 #[(.pointer (some ⟨b, 0, none⟩)), .int .i64 now] w fun e w' => ∃ v, e = .returned v ∧ OwnR 75 3 w' w.heap.size v (mls (L.filter fun x => dueB x now gap)) ∧ PostAt w' b c cap (L.map (mkF now gap)) gap last lost ∧ Pk b c w w' := by
  have HP := hidp hp
  have H := hidp (Mm.M.nil w)
  have hn : 0 ≤ now ∧ now ≤ 1099511627776 := by simp [nowOk] at h; omega
  have e1 : decide (now < 0) = false := decide_eq_false (by omega)
  have e2 : decide (1099511627776 < now) = false := decide_eq_false (by omega)
  clear hp h
  refine (callsIn_wide (n := 8)).1 ?_
  refine callsIn_of_wp_marks Try.func29 rfl trivial ?_ rfl
  refine wpIn_wide.2 ?_
  simp only [Try.ntmps29, List.size_toArray, List.length_cons, List.length_nil, Nat.reduceAdd, Nat.reduceSub, Array.replicate_succ, Array.replicate_zero, List.push_toArray, List.append_toArray, List.nil_append, List.cons_append]
  have tk0 := hidp trivial
  go_wp2_with (first | (clear tk0; (refine Mm.box1 49 H rfl (.tmp 0) rfl (.pointer (some ⟨b, 0, none⟩)) rfl rfl ?_; clear H; intro b2 _ H nw; have hb := nw.below; clear hb nw); (try simp only [Act.put, setIfInBounds_toArray, set_cons_zero, set_cons_succ]); have tk1 := hidp trivial) | (clear tk1; (refine Mm.box1 2 H rfl (.tmp 1) rfl (.int .i64 now) rfl rfl ?_; clear H; intro b3 _ H nw; have hb := nw.below; clear hb nw); (try simp only [Act.put, setIfInBounds_toArray, set_cons_zero, set_cons_succ]); have tk2 := hidp trivial) | (clear tk2; (refine Mm.ld1 naPP H rfl (.tmp 2) 0 (.pointer (some ⟨b, 0, none⟩)) rfl rfl rfl ?_); (try simp only [Act.put, setIfInBounds_toArray, set_cons_zero, set_cons_succ]); have tk3 := hidp trivial) | (clear tk3; (go_at_call 44; refine (known_any _ b).mono ?_; rintro e _ ⟨rfl, rfl⟩); (try simp only [Act.put, setIfInBounds_toArray, set_cons_zero, set_cons_succ]); have tk4 := hidp trivial) | (clear tk4; (refine Mm.putF1 H rfl 49 (.tmp 2) (.tmp 8) 0 (.pointer (some ⟨b, 0, none⟩)) rfl rfl rfl (by kernel_rfl) rfl (of_decide_eq_true rfl) ?_; intro _ H2 st; clear st H; have H : Hid (Mm.M w.heap.size w _ ([⟨b3, 2, [.int .i64 now]⟩, ⟨b2, 49, [.pointer (some ⟨b, 0, none⟩)]⟩])) := H2; clear H2); (try simp only [Act.put, setIfInBounds_toArray, set_cons_zero, set_cons_succ]); have tk5 := hidp trivial) | (clear tk5; (refine Mm.ld0 naI64 H rfl (.tmp 3) 0 (.int .i64 now) rfl rfl rfl ?_); (try simp only [Act.put, setIfInBounds_toArray, set_cons_zero, set_cons_succ]); have tk6 := hidp trivial) | (clear tk6; (refine Mm.ld0 naI64 H rfl (.tmp 3) 0 (.int .i64 now) rfl rfl rfl ?_); (try simp only [Act.put, setIfInBounds_toArray, set_cons_zero, set_cons_succ]); have tk7 := hidp trivial) | (clear tk7; (refine Mm.new1 63 (.slice none 0 0) (by kernel_rfl) rfl H (some 5) rfl rfl rfl ?_; clear H; intro b5 _ H nw; have hb := nw.below; clear hb nw); (try simp only [Act.put, setIfInBounds_toArray, set_cons_zero, set_cons_succ]); have tk8 := hidp trivial) | (clear tk8; (refine Mm.ld2 naPP H rfl (.tmp 2) 0 (.pointer (some ⟨b, 0, none⟩)) rfl rfl rfl ?_); (try simp only [Act.put, setIfInBounds_toArray, set_cons_zero, set_cons_succ]); have tk9 := hidp trivial) | (clear tk9; (refine Mm.ldc naQ rfl (.tmp 17) ⟨b, 0, none⟩ (.chan (some c)) rfl rfl ((HP.out.to H.out.below).arr.cell 0 (by simp [pR])) ?_); (try simp only [Act.put, setIfInBounds_toArray, set_cons_zero, set_cons_succ]); have tk10 := hidp trivial) | (clear tk10; (go_at_call 46; refine (each_any _ c).mono ?_; rintro e w1 ⟨bq, rfl, hq, hbq, hb⟩; replace H := hidp (H.out.call hb); have HQ := hidp hq; clear hq; clear hb); (try simp only [Act.put, setIfInBounds_toArray, set_cons_zero, set_cons_succ]); have tk11 := hidp trivial))
  try clear tk11
  have HC1 := hidp (HP.out.to H.out.below).ch
  have HPA := hidp (HP.out.to H.out.below).arr
  have hcb := hidp (HC1.out.ne H.out.at0).symm
  have hcl := hidp HC1.out.lt
  have n2c := hidp (HC1.out.ne H.out.at2); have n3c := hidp (HC1.out.ne H.out.at1); have nbc := hidp (HC1.out.ne HPA.out)
  have n25 := hidp (arr_ne H.out.at2 H.out.at0 (by decide)); have n35 := hidp (arr_ne H.out.at1 H.out.at0 (by decide)); have nb5 := hidp (arr_ne HPA.out H.out.at0 (by decide))
  refine range_C 8 (fun a B => { tmps := (a.tmps.setIfInBounds 20 (.pointer (some ⟨B, 0, none⟩))).setIfInBounds 6 (.pointer (some ⟨B, 0, none⟩)), defers := [] }) (by omega) rfl (enters_of Try.func54 (by kernel_rfl) rfl) (each1_seq (8 - 1) (by omega) w1 c cap bq (mkF now gap) L HQ.out hcap (by omega)) rfl HC1.out
    (fun pre W => (∃ v, Arr W b5 63 [v] ∧ OwnR 75 3 W w1.heap.size v (mls (pre.filter fun x => dueB x now gap))) ∧ Ex c b5 w1 W) ?stab ⟨⟨_, H.out.at0, OwnR.nil _ _⟩, Ex.refl _ _ _⟩ ?assign ?body ?done
  case stab =>
    rintro pre W W' ⟨⟨v, ha, ho⟩, him⟩ h
    exact ⟨⟨v, h.arr ha hcb.out.symm (lvM_no ha (by decide) (by decide)) (.inr rfl), ownR_im ho h hcl.out (by decide) (by decide)⟩, him.im h⟩
  case assign =>
    intro l B W K hK
    rw [show ∀ (t : Array Value) (v : Value), Array.foldl (fun (t : Array Value) (x : Tmp × Value) => t.setIfInBounds x.1 x.2) t ((#[20] : Array Tmp).zip #[v]) = t.setIfInBounds 20 v from fun t v => by simp]
    have HK := hidp hK
    clear hK
    simp only [List.setIfInBounds_toArray, List.set_cons_zero, List.set_cons_succ] at HK ⊢
    gi_wp2_with fail
    exact HK.out
  case body =>
    rintro l pre x B V ⟨⟨v, ha, ho⟩, him⟩ hpx hBB hcW hA
    have HIV := hidp him; have H5V := hidp ha; have HOV := hidp ho; have HAV := hidp hA
    have hxL := hpx.subset (show x ∈ pre ++ [x] by simp)
    have hxm := hx x hxL
    have hpl := hidp (show (mls (pre.filter fun x => dueB x now gap)).length + 1 ≤ 1048576 from by have h1 := hpx.length_le; have h2 := List.length_filter_le (fun x => dueB x now gap) pre; simp [mls] at h1 ⊢; omega)
    have cc := hidp (fun W => copied_any W (mkD x now) hxm)
    have hcV := hidp hcW
    have hB2 := hidp (show Arr V b2 49 [.pointer (some ⟨b, 0, none⟩)] from (HIV.out.same b2 H.out.at2.lt n2c.out n25.out).trans H.out.at2)
    have hB3 := hidp (show Arr V b3 2 [.int .i64 now] from (HIV.out.same b3 H.out.at1.lt n3c.out n35.out).trans H.out.at1)
    have hBP := hidp (show Arr V b 90 (pR c gap last lost) from (HIV.out.same b HPA.out.lt nbc.out nb5.out).trans HPA.out)
    have cd := hidp (fun U => due_any U x now gap hn (hat x hxL))
    clear ha ho him hA hxm hxL hcW
    simp only [List.setIfInBounds_toArray, List.set_cons_zero, List.set_cons_succ]
    cases hd : dueB x now gap with
    | false =>
      have HMK := hidp (show mkF now gap x = x from by unfold mkF; rw [hd]; rfl)
      have hsnoc := hidp (show (pre ++ [x]).filter (fun x => dueB x now gap) = pre.filter fun x => dueB x now gap from by rw [List.filter_append]; simp [hd])
      gi_wp2_with fail
      obtain ⟨X0, hU⟩ : ∃ U, ({ V with drawn := V.drawn + 1 } : World) = U := ⟨_, rfl⟩
      have HX0 := hidp (show Below V.heap.size V X0 from by rw [← hU]; exact (Below.refl _ _).drew)
      refine Rnd.in_region_scr0 (S := fun U => Below V.heap.size V U) (.take 0 (.take 1 (.take 2 (.take 3 (.take 4 (.take 5 (.take 6 (.take 7 (.one 8 .done))))))))) (Rnd.roundF l) (by kernel_rfl) (by kernel_rfl) (by kernel_rfl) (by simp [Scr.depth]) (by kernel_rfl) (by rw [hU]; exact HX0.out) ?_
      simp only [hU]
      clear hU
      apply s_val
      case ho => rfl
      case hw => rfl
      case hv => intro w hw; go_simp; first | done | with_reducible rfl | rfl
      simp only [Act.put, List.getElem_toArray, List.getElem_cons_zero, List.getElem_cons_succ, List.setIfInBounds_toArray, List.set_cons_zero, List.set_cons_succ]
      apply s_val
      case ho => rfl
      case hw => rfl
      case hv => intro w hw; go_simp; first | done | with_reducible rfl | rfl
      simp only [Act.put, List.getElem_toArray, List.getElem_cons_zero, List.getElem_cons_succ, List.setIfInBounds_toArray, List.set_cons_zero, List.set_cons_succ]
      refine Rt.s_get rtL rfl rfl (.tmp 22) rfl B x.row rfl rfl (fun U h => HAV.out.below h HAV.out.lt) ?_
      simp only [Act.put, List.getElem_toArray, List.getElem_cons_zero, List.getElem_cons_succ, List.setIfInBounds_toArray, List.set_cons_zero, List.set_cons_succ]
      refine Mm.s_ldc naI64 rfl rfl (.tmp 3) ⟨b3, 0, none⟩ (.int .i64 now) rfl rfl (fun U h => (hB3.out.below h hB3.out.lt).cell 0 (by simp)) ?_
      simp only [Act.put, List.getElem_toArray, List.getElem_cons_zero, List.getElem_cons_succ, List.setIfInBounds_toArray, List.set_cons_zero, List.set_cons_succ]
      refine Mm.s_ldc naPP rfl rfl (.tmp 2) ⟨b2, 0, none⟩ (.pointer (some ⟨b, 0, none⟩)) rfl rfl (fun U h => (hB2.out.below h hB2.out.lt).cell 0 (by simp)) ?_
      simp only [Act.put, List.getElem_toArray, List.getElem_cons_zero, List.getElem_cons_succ, List.setIfInBounds_toArray, List.set_cons_zero, List.set_cons_succ]
      apply s_val
      case ho => rfl
      case hw => rfl
      case hv => intro w hw; go_simp; first | done | with_reducible rfl | rfl
      simp only [Act.put, List.getElem_toArray, List.getElem_cons_zero, List.getElem_cons_succ, List.setIfInBounds_toArray, List.set_cons_zero, List.set_cons_succ]
      apply s_val
      case ho => rfl
      case hw => rfl
      case hv => intro w hw; go_simp; first | done | with_reducible rfl | rfl
      simp only [Act.put, List.getElem_toArray, List.getElem_cons_zero, List.getElem_cons_succ, List.setIfInBounds_toArray, List.set_cons_zero, List.set_cons_succ]
      refine Mm.s_ldc naI64 rfl rfl (.tmp 27) ⟨b, 1, none⟩ (.int .i64 gap) rfl rfl (fun U h => (hBP.out.below h hBP.out.lt).cell 1 (by simp [pR])) ?_
      simp only [Act.put, List.getElem_toArray, List.getElem_cons_zero, List.getElem_cons_succ, List.setIfInBounds_toArray, List.set_cons_zero, List.set_cons_succ]
      refine o_callG rfl rfl 47 #[.agg x.row.toArray, .int .i64 now, .int .i64 gap] (by go_simp; first | done | rfl) (cd.out X0) ?_
      rintro e V1 ⟨rfl, hb⟩
      have HV1 := hidp (HX0.out.trans (hb.mono HX0.out.size))
      clear hb
      refine ⟨.bool (dueB x now gap), rfl, HV1.out, ?_⟩
      rw [hd]
      simp only [Act.put, List.getElem_toArray, List.getElem_cons_zero, List.getElem_cons_succ, List.setIfInBounds_toArray, List.set_cons_zero, List.set_cons_succ]
      refine Rnd.scr_done0 ?_
      gi_wp2_with fail
      exact ⟨(KeepsOthers.of_grownBy (row := none) (grown_of_below HV1.out) (fun j o e => by cases e)).from _, Kp.of_below HV1.out hcV.out, by rw [HMK.out]; exact HAV.out.below HV1.out HAV.out.lt, ⟨v, H5V.out.below HV1.out H5V.out.lt, by rw [hsnoc.out]; exact HOV.out.to HV1.out (Nat.le_refl _)⟩, HIV.out.below HV1.out⟩
    | true =>
      have HMK := hidp (show mkF now gap x = mkD x now from by unfold mkF; rw [hd]; rfl)
      have hsnoc := hidp (show mls ((pre ++ [x]).filter fun x => dueB x now gap) = mls (pre.filter fun x => dueB x now gap) ++ [x.mail] from by rw [List.filter_append]; simp [hd, mls])
      gi_wp2_with fail
      obtain ⟨X0, hU⟩ : ∃ U, ({ V with drawn := V.drawn + 1 } : World) = U := ⟨_, rfl⟩
      have HX0 := hidp (show Below V.heap.size V X0 from by rw [← hU]; exact (Below.refl _ _).drew)
      refine Rnd.in_region_scr0 (S := fun U => Below V.heap.size V U) (.take 0 (.take 1 (.take 2 (.take 3 (.take 4 (.take 5 (.take 6 (.take 7 (.one 8 .done))))))))) (Rnd.roundF l) (by kernel_rfl) (by kernel_rfl) (by kernel_rfl) (by simp [Scr.depth]) (by kernel_rfl) (by rw [hU]; exact HX0.out) ?_
      simp only [hU]
      clear hU
      apply s_val
      case ho => rfl
      case hw => rfl
      case hv => intro w hw; go_simp; first | done | with_reducible rfl | rfl
      simp only [Act.put, List.getElem_toArray, List.getElem_cons_zero, List.getElem_cons_succ, List.setIfInBounds_toArray, List.set_cons_zero, List.set_cons_succ]
      apply s_val
      case ho => rfl
      case hw => rfl
      case hv => intro w hw; go_simp; first | done | with_reducible rfl | rfl
      simp only [Act.put, List.getElem_toArray, List.getElem_cons_zero, List.getElem_cons_succ, List.setIfInBounds_toArray, List.set_cons_zero, List.set_cons_succ]
      refine Rt.s_get rtL rfl rfl (.tmp 22) rfl B x.row rfl rfl (fun U h => HAV.out.below h HAV.out.lt) ?_
      simp only [Act.put, List.getElem_toArray, List.getElem_cons_zero, List.getElem_cons_succ, List.setIfInBounds_toArray, List.set_cons_zero, List.set_cons_succ]
      refine Mm.s_ldc naI64 rfl rfl (.tmp 3) ⟨b3, 0, none⟩ (.int .i64 now) rfl rfl (fun U h => (hB3.out.below h hB3.out.lt).cell 0 (by simp)) ?_
      simp only [Act.put, List.getElem_toArray, List.getElem_cons_zero, List.getElem_cons_succ, List.setIfInBounds_toArray, List.set_cons_zero, List.set_cons_succ]
      refine Mm.s_ldc naPP rfl rfl (.tmp 2) ⟨b2, 0, none⟩ (.pointer (some ⟨b, 0, none⟩)) rfl rfl (fun U h => (hB2.out.below h hB2.out.lt).cell 0 (by simp)) ?_
      simp only [Act.put, List.getElem_toArray, List.getElem_cons_zero, List.getElem_cons_succ, List.setIfInBounds_toArray, List.set_cons_zero, List.set_cons_succ]
      apply s_val
      case ho => rfl
      case hw => rfl
      case hv => intro w hw; go_simp; first | done | with_reducible rfl | rfl
      simp only [Act.put, List.getElem_toArray, List.getElem_cons_zero, List.getElem_cons_succ, List.setIfInBounds_toArray, List.set_cons_zero, List.set_cons_succ]
      apply s_val
      case ho => rfl
      case hw => rfl
      case hv => intro w hw; go_simp; first | done | with_reducible rfl | rfl
      simp only [Act.put, List.getElem_toArray, List.getElem_cons_zero, List.getElem_cons_succ, List.setIfInBounds_toArray, List.set_cons_zero, List.set_cons_succ]
      refine Mm.s_ldc naI64 rfl rfl (.tmp 27) ⟨b, 1, none⟩ (.int .i64 gap) rfl rfl (fun U h => (hBP.out.below h hBP.out.lt).cell 1 (by simp [pR])) ?_
      simp only [Act.put, List.getElem_toArray, List.getElem_cons_zero, List.getElem_cons_succ, List.setIfInBounds_toArray, List.set_cons_zero, List.set_cons_succ]
      refine o_callG rfl rfl 47 #[.agg x.row.toArray, .int .i64 now, .int .i64 gap] (by go_simp; first | done | rfl) (cd.out X0) ?_
      rintro e V1 ⟨rfl, hb⟩
      have HV1 := hidp (HX0.out.trans (hb.mono HX0.out.size))
      clear hb
      refine ⟨.bool (dueB x now gap), rfl, HV1.out, ?_⟩
      rw [hd]
      simp only [Act.put, List.getElem_toArray, List.getElem_cons_zero, List.getElem_cons_succ, List.setIfInBounds_toArray, List.set_cons_zero, List.set_cons_succ]
      refine Rnd.scr_done0 ?_
      gi_wp2_with fail
      obtain ⟨V2, hU⟩ : ∃ U, ({ V1 with drawn := V1.drawn + 1 } : World) = U := ⟨_, rfl⟩
      have HV2 := hidp (show Below V.heap.size V V2 from HV1.out.trans (by rw [← hU]; exact (Below.refl _ _).drew))
      refine Rnd.in_region_scr0 (S := fun U => Arr U b3 2 [.int .i64 now]) (.take 0 (.take 1 (.take 2 (.take 3 (.take 4 (.one 5 (.take 6 (.take 7 (.one 8 .done))))))))) (Rnd.roundF l) (by kernel_rfl) (by kernel_rfl) (by kernel_rfl) (by simp [Scr.depth]) (by kernel_rfl) (by rw [hU]; exact hB3.out.below HV2.out hB3.out.lt) ?_
      simp only [hU]
      clear hU
      apply s_val
      case ho => rfl
      case hw => rfl
      case hv => intro w hw; go_simp; first | done | with_reducible rfl | rfl
      simp only [Act.put, List.getElem_toArray, List.getElem_cons_zero, List.getElem_cons_succ, List.setIfInBounds_toArray, List.set_cons_zero, List.set_cons_succ]
      apply s_val
      case ho => rfl
      case hw => rfl
      case hv => intro w hw; go_simp; first | done | with_reducible rfl | rfl
      simp only [Act.put, List.getElem_toArray, List.getElem_cons_zero, List.getElem_cons_succ, List.setIfInBounds_toArray, List.set_cons_zero, List.set_cons_succ]
      refine Mm.s_ldc naI64 rfl rfl (.tmp 3) ⟨b3, 0, none⟩ (.int .i64 now) rfl rfl (fun U h => h.cell 0 (by simp)) ?_
      simp only [Act.put, List.getElem_toArray, List.getElem_cons_zero, List.getElem_cons_succ, List.setIfInBounds_toArray, List.set_cons_zero, List.set_cons_succ]
      apply s_val
      case ho => rfl
      case hw => rfl
      case hv => intro w hw; go_simp; first | done | with_reducible rfl | rfl
      simp only [Act.put, List.getElem_toArray, List.getElem_cons_zero, List.getElem_cons_succ, List.setIfInBounds_toArray, List.set_cons_zero, List.set_cons_succ]
      apply s_val
      case ho => rfl
      case hw => rfl
      case hv => intro w hw; go_simp; first | done | with_reducible rfl | rfl
      simp only [Act.put, List.getElem_toArray, List.getElem_cons_zero, List.getElem_cons_succ, List.setIfInBounds_toArray, List.set_cons_zero, List.set_cons_succ]
      refine o_putV rfl rfl 96 4 (.tmp 34) (.const (.bool true)) rfl B 3 (.bool true) rfl rfl (by kernel_rfl) rfl x.row (HAV.out.below HV2.out HAV.out.lt) (by simp [Lt.row]) ?_
      intro V3 ha3 st3
      have HA3 := hidp ha3; have HS3 := hidp st3
      clear ha3 st3
      have HT3 := hidp (HS3.out.arr (arr_ne (hB3.out.below HV2.out hB3.out.lt) (HAV.out.below HV2.out HAV.out.lt) (by decide)) (hB3.out.below HV2.out hB3.out.lt))
      refine ⟨HT3.out, ?_⟩
      simp only [Act.put, List.getElem_toArray, List.getElem_cons_zero, List.getElem_cons_succ, List.setIfInBounds_toArray, List.set_cons_zero, List.set_cons_succ]
      apply s_val
      case ho => rfl
      case hw => rfl
      case hv => intro w hw; go_simp; first | done | with_reducible rfl | rfl
      simp only [Act.put, List.getElem_toArray, List.getElem_cons_zero, List.getElem_cons_succ, List.setIfInBounds_toArray, List.set_cons_zero, List.set_cons_succ]
      apply s_val
      case ho => rfl
      case hw => rfl
      case hv => intro w hw; go_simp; first | done | with_reducible rfl | rfl
      simp only [Act.put, List.getElem_toArray, List.getElem_cons_zero, List.getElem_cons_succ, List.setIfInBounds_toArray, List.set_cons_zero, List.set_cons_succ]
      refine o_putV rfl rfl 96 2 (.tmp 36) (.tmp 32) rfl B 4 (.int .i64 now) rfl rfl (by kernel_rfl) rfl _ HA3.out (by simp [Lt.row]) ?_
      intro W ha4 st4
      have HAW := hidp (show Arr W B 96 (mkD x now).row from ha4); have HS4 := hidp st4
      clear ha4 st4
      refine ⟨HS4.out.arr (arr_ne HT3.out HA3.out (by decide)) HT3.out, ?_⟩
      simp only [Act.put, List.getElem_toArray, List.getElem_cons_zero, List.getElem_cons_succ, List.setIfInBounds_toArray, List.set_cons_zero, List.set_cons_succ]
      refine Rnd.scr_done0 ?_
      have hst := hidp (HS3.out.trans HS4.out)
      have HIM := hidp ((HIV.out.below HV2.out).stp hst.out hBB)
      have hAB := HAV.out.below HV2.out HAV.out.lt
      have H5W := hidp (hst.out.arr (arr_ne (H5V.out.below HV2.out H5V.out.lt) hAB (by decide)) (H5V.out.below HV2.out H5V.out.lt))
      have HOW := hidp (OwnR.stpR (HOV.out.to HV2.out (Nat.le_refl _)) hst.out hAB (by decide))
      have HKF := hidp (((KeepsOthers.of_grownBy (row := none) (grown_of_below HV2.out) (fun j o e => by cases e)).trans (Rnd.others_stp hst.out hAB)).from w1.heap.size)
      have HKP := hidp ((Kp.of_below (c := c) (lv := lvP w1.heap.size) HV2.out hcV.out).trans (Kp.stp hst.out hAB (fun e => absurd (e ▸ hBB) (by have := hcl.out; omega)) (fun h => h.2.elim (by decide) (by decide))))
      clear hAB
      gi_wp2_with fail
      obtain ⟨X0, hU⟩ : ∃ U, ({ W with drawn := W.drawn + 1 } : World) = U := ⟨_, rfl⟩
      have bU : Below W.heap.size W X0 := by rw [← hU]; exact (Below.refl _ _).drew
      have HX0 := hidp bU
      have HS0 := hidp (show Arr X0 B 96 (mkD x now).row from HAW.out.below bU HAW.out.lt)
      clear bU
      refine Rnd.in_region_scr0 (S := fun W => Arr W B 96 (mkD x now).row) (.take 1 (.take 2 (.take 3 (.two 0 (.one 4 (.one 5 (.one 6 (.one 7 .done)))) 4 (.two 0 (.one 5 (.one 6 (.one 7 .done))) 5 (.one 0 (.one 6 (.one 7 .done)))))))) (Rnd.roundF l) (by kernel_rfl) (by kernel_rfl) (by kernel_rfl) (by simp [Scr.depth]) (by kernel_rfl) (by rw [hU]; exact HS0.out) ?_
      simp only [hU]
      clear hU
      apply s_val
      case ho => rfl
      case hw => rfl
      case hv => intro w hw; go_simp; first | done | with_reducible rfl | rfl
      simp only [Act.put, List.getElem_toArray, List.getElem_cons_zero, List.getElem_cons_succ, List.setIfInBounds_toArray, List.set_cons_zero, List.set_cons_succ]
      apply s_val
      case ho => rfl
      case hw => rfl
      case hv => intro w hw; go_simp; first | done | with_reducible rfl | rfl
      simp only [Act.put, List.getElem_toArray, List.getElem_cons_zero, List.getElem_cons_succ, List.setIfInBounds_toArray, List.set_cons_zero, List.set_cons_succ]
      refine Rt.s_get rtL rfl rfl (.tmp 39) rfl B (mkD x now).row rfl rfl (fun w h => h) ?_
      simp only [Act.put, List.getElem_toArray, List.getElem_cons_zero, List.getElem_cons_succ, List.setIfInBounds_toArray, List.set_cons_zero, List.set_cons_succ]
      refine ⟨?_, ?_⟩
      · refine o_ldc naMS rfl rfl (.tmp 5) ⟨b5, 0, none⟩ v rfl rfl ((H5W.out.below HX0.out H5W.out.lt).cell 0 (by simp)) (HAW.out.below HX0.out HAW.out.lt) ?_
        simp only [Act.put, List.getElem_toArray, List.getElem_cons_zero, List.getElem_cons_succ, List.setIfInBounds_toArray, List.set_cons_zero, List.set_cons_succ]
        refine o_callG rfl rfl 48 #[.agg (mkD x now).row.toArray] (by go_simp; first | done | rfl) (cc.out X0) ?_
        rintro e X1 ⟨rfl, hb⟩
        have HX1 := hidp (HX0.out.trans (hb.mono HX0.out.size))
        refine ⟨.agg x.mail.toArray, rfl, (HAW.out.below HX1.out HAW.out.lt), ?_⟩
        clear hb
        simp only [Act.put, List.getElem_toArray, List.getElem_cons_zero, List.getElem_cons_succ, List.setIfInBounds_toArray, List.set_cons_zero, List.set_cons_succ]
        refine o_bs1R tyM rfl rfl (.tmp 41) rfl x.mail rfl rfl ?_
        intro nb X2 n1
        have HX2 := hidp (HX1.out.trans (n1.below.mono HX1.out.size))
        have HNB := hidp n1.arr
        refine ⟨(HAW.out.below HX2.out HAW.out.lt), ?_⟩
        clear n1
        simp only [Act.put, List.getElem_toArray, List.getElem_cons_zero, List.getElem_cons_succ, List.setIfInBounds_toArray, List.set_cons_zero, List.set_cons_succ]
        refine o_app1R tyM rfl rfl (.tmp 37) (.tmp 42) rfl w1.heap.size nb v (mls (pre.filter fun x => dueB x now gap)) x.mail rfl rfl (HOW.out.to HX2.out (Nat.le_refl _)) HNB.out (Lt.mone x) rfl (Nat.le_trans HIM.out.size HX2.out.size) hpl.out ?_
        intro v2 Y h1 h2
        have HOY := hidp h1; have HGY := hidp h2
        clear h1 h2
        have HOX := hidp (HOW.out.to HX2.out (Nat.le_refl _))
        have H5Y := hidp (keepsR HOX.out HGY.out (H5W.out.below HX2.out H5W.out.lt) (by decide))
        have HRY := hidp (keepsR HOX.out HGY.out (HAW.out.below HX2.out HAW.out.lt) (by decide))
        refine ⟨HRY.out, ?_⟩
        simp only [Act.put, List.getElem_toArray, List.getElem_cons_zero, List.getElem_cons_succ, List.setIfInBounds_toArray, List.set_cons_zero, List.set_cons_succ]
        refine o_putV rfl rfl 63 63 (.tmp 5) (.tmp 43) rfl b5 0 v2 rfl rfl (by kernel_rfl) (OwnR.oneC HOY.out) [v] H5Y.out (by simp) ?_
        intro Z ha hp
        have HAZ := hidp (show Arr Z b5 63 [v2] from ha); have HPZ := hidp hp
        clear ha hp
        refine ⟨HPZ.out.arr (arr_ne HRY.out H5Y.out (by decide)) HRY.out, ?_⟩
        simp only [Act.put, List.getElem_toArray, List.getElem_cons_zero, List.getElem_cons_succ, List.setIfInBounds_toArray, List.set_cons_zero, List.set_cons_succ]
        refine Rnd.scr_done0 ?_
        gi_wp2_with fail
        have hq := rnd_end HIM.out hcl.out hcb.out HX2.out HGY.out HPZ.out HOX.out H5Y.out
        exact ⟨(KeepsFrom.tr HKF.out hq.1), HKP.out.trans hq.2.1, by rw [HMK.out]; exact HPZ.out.arr (arr_ne HRY.out H5Y.out (by decide)) HRY.out, ⟨v2, HAZ.out, by rw [hsnoc.out]; exact OwnR.stpR HOY.out HPZ.out H5Y.out (by decide)⟩, hq.2.2⟩
      · refine o_callG rfl rfl 48 #[.agg (mkD x now).row.toArray] (by go_simp; first | done | rfl) (cc.out X0) ?_
        rintro e X1 ⟨rfl, hb⟩
        have HX1 := hidp (HX0.out.trans (hb.mono HX0.out.size))
        refine ⟨.agg x.mail.toArray, rfl, (HAW.out.below HX1.out HAW.out.lt), ?_⟩
        clear hb
        simp only [Act.put, List.getElem_toArray, List.getElem_cons_zero, List.getElem_cons_succ, List.setIfInBounds_toArray, List.set_cons_zero, List.set_cons_succ]
        refine ⟨?_, ?_⟩
        · refine o_ldc naMS rfl rfl (.tmp 5) ⟨b5, 0, none⟩ v rfl rfl ((H5W.out.below HX1.out H5W.out.lt).cell 0 (by simp)) (HAW.out.below HX1.out HAW.out.lt) ?_
          simp only [Act.put, List.getElem_toArray, List.getElem_cons_zero, List.getElem_cons_succ, List.setIfInBounds_toArray, List.set_cons_zero, List.set_cons_succ]
          refine o_bs1R tyM rfl rfl (.tmp 41) rfl x.mail rfl rfl ?_
          intro nb X2 n1
          have HX2 := hidp (HX1.out.trans (n1.below.mono HX1.out.size))
          have HNB := hidp n1.arr
          refine ⟨(HAW.out.below HX2.out HAW.out.lt), ?_⟩
          clear n1
          simp only [Act.put, List.getElem_toArray, List.getElem_cons_zero, List.getElem_cons_succ, List.setIfInBounds_toArray, List.set_cons_zero, List.set_cons_succ]
          refine o_app1R tyM rfl rfl (.tmp 37) (.tmp 42) rfl w1.heap.size nb v (mls (pre.filter fun x => dueB x now gap)) x.mail rfl rfl (HOW.out.to HX2.out (Nat.le_refl _)) HNB.out (Lt.mone x) rfl (Nat.le_trans HIM.out.size HX2.out.size) hpl.out ?_
          intro v2 Y h1 h2
          have HOY := hidp h1; have HGY := hidp h2
          clear h1 h2
          have HOX := hidp (HOW.out.to HX2.out (Nat.le_refl _))
          have H5Y := hidp (keepsR HOX.out HGY.out (H5W.out.below HX2.out H5W.out.lt) (by decide))
          have HRY := hidp (keepsR HOX.out HGY.out (HAW.out.below HX2.out HAW.out.lt) (by decide))
          refine ⟨HRY.out, ?_⟩
          simp only [Act.put, List.getElem_toArray, List.getElem_cons_zero, List.getElem_cons_succ, List.setIfInBounds_toArray, List.set_cons_zero, List.set_cons_succ]
          refine o_putV rfl rfl 63 63 (.tmp 5) (.tmp 43) rfl b5 0 v2 rfl rfl (by kernel_rfl) (OwnR.oneC HOY.out) [v] H5Y.out (by simp) ?_
          intro Z ha hp
          have HAZ := hidp (show Arr Z b5 63 [v2] from ha); have HPZ := hidp hp
          clear ha hp
          refine ⟨HPZ.out.arr (arr_ne HRY.out H5Y.out (by decide)) HRY.out, ?_⟩
          simp only [Act.put, List.getElem_toArray, List.getElem_cons_zero, List.getElem_cons_succ, List.setIfInBounds_toArray, List.set_cons_zero, List.set_cons_succ]
          refine Rnd.scr_done0 ?_
          gi_wp2_with fail
          have hq := rnd_end HIM.out hcl.out hcb.out HX2.out HGY.out HPZ.out HOX.out H5Y.out
          exact ⟨(KeepsFrom.tr HKF.out hq.1), HKP.out.trans hq.2.1, by rw [HMK.out]; exact HPZ.out.arr (arr_ne HRY.out H5Y.out (by decide)) HRY.out, ⟨v2, HAZ.out, by rw [hsnoc.out]; exact OwnR.stpR HOY.out HPZ.out H5Y.out (by decide)⟩, hq.2.2⟩
        · refine o_bs1R tyM rfl rfl (.tmp 41) rfl x.mail rfl rfl ?_
          intro nb X2 n1
          have HX2 := hidp (HX1.out.trans (n1.below.mono HX1.out.size))
          have HNB := hidp n1.arr
          refine ⟨(HAW.out.below HX2.out HAW.out.lt), ?_⟩
          clear n1
          simp only [Act.put, List.getElem_toArray, List.getElem_cons_zero, List.getElem_cons_succ, List.setIfInBounds_toArray, List.set_cons_zero, List.set_cons_succ]
          refine o_ldc naMS rfl rfl (.tmp 5) ⟨b5, 0, none⟩ v rfl rfl ((H5W.out.below HX2.out H5W.out.lt).cell 0 (by simp)) (HAW.out.below HX2.out HAW.out.lt) ?_
          simp only [Act.put, List.getElem_toArray, List.getElem_cons_zero, List.getElem_cons_succ, List.setIfInBounds_toArray, List.set_cons_zero, List.set_cons_succ]
          refine o_app1R tyM rfl rfl (.tmp 37) (.tmp 42) rfl w1.heap.size nb v (mls (pre.filter fun x => dueB x now gap)) x.mail rfl rfl (HOW.out.to HX2.out (Nat.le_refl _)) HNB.out (Lt.mone x) rfl (Nat.le_trans HIM.out.size HX2.out.size) hpl.out ?_
          intro v2 Y h1 h2
          have HOY := hidp h1; have HGY := hidp h2
          clear h1 h2
          have HOX := hidp (HOW.out.to HX2.out (Nat.le_refl _))
          have H5Y := hidp (keepsR HOX.out HGY.out (H5W.out.below HX2.out H5W.out.lt) (by decide))
          have HRY := hidp (keepsR HOX.out HGY.out (HAW.out.below HX2.out HAW.out.lt) (by decide))
          refine ⟨HRY.out, ?_⟩
          simp only [Act.put, List.getElem_toArray, List.getElem_cons_zero, List.getElem_cons_succ, List.setIfInBounds_toArray, List.set_cons_zero, List.set_cons_succ]
          refine o_putV rfl rfl 63 63 (.tmp 5) (.tmp 43) rfl b5 0 v2 rfl rfl (by kernel_rfl) (OwnR.oneC HOY.out) [v] H5Y.out (by simp) ?_
          intro Z ha hp
          have HAZ := hidp (show Arr Z b5 63 [v2] from ha); have HPZ := hidp hp
          clear ha hp
          refine ⟨HPZ.out.arr (arr_ne HRY.out H5Y.out (by decide)) HRY.out, ?_⟩
          simp only [Act.put, List.getElem_toArray, List.getElem_cons_zero, List.getElem_cons_succ, List.setIfInBounds_toArray, List.set_cons_zero, List.set_cons_succ]
          refine Rnd.scr_done0 ?_
          gi_wp2_with fail
          have hq := rnd_end HIM.out hcl.out hcb.out HX2.out HGY.out HPZ.out HOX.out H5Y.out
          exact ⟨(KeepsFrom.tr HKF.out hq.1), HKP.out.trans hq.2.1, by rw [HMK.out]; exact HPZ.out.arr (arr_ne HRY.out H5Y.out (by decide)) HRY.out, ⟨v2, HAZ.out, by rw [hsnoc.out]; exact OwnR.stpR HOY.out HPZ.out H5Y.out (by decide)⟩, hq.2.2⟩
  case done =>
    rintro D W hD ⟨⟨v, ha, ho⟩, him⟩ hch hK
    have HA := hidp ha; have HO := hidp ho; have HIM := hidp him; have HCH := hidp hch; have HK := hidp hK
    have hb3 := hidp (H.out.ge ⟨b5, 63, [.slice none 0 0]⟩ (by simp))
    have HPW := HP.out.to H.out.below
    have hfin := hidp (fin_facts hD (Nat.le_refl _) H.out.below hb3.out HPW (arr_ne HPW.arr H.out.at0 (by decide)) HIM.out HO.out (L2 := L.map (mkF now gap)) (by rw [List.map_map]; exact hch) hK)
    clear ha ho him hch hK HPW
    go_wp2_with (refine Mm.ldc naMS rfl (.tmp 5) ⟨b5, 0, none⟩ v rfl rfl (HA.out.cell 0 (by simp)) ?_)
    refine ⟨by simp [Act.put], .inl ⟨_, _, rfl, run_takeDeferred HK.out, ?_⟩⟩
    refine ⟨_, results_tmp Try.results29 _ _ _, ⟨_, rfl, hfin.out⟩⟩
end Go.Proofs.Ytokakgjcegmabaa.Po
