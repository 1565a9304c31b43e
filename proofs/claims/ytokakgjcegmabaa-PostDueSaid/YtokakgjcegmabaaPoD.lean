/-
  post: the iterator over a queue; letters.
-/
import Derived.Test.YtokakgjcegmabaaPoC
import Derived.Test.YtokakgjcegmabaaSl
import Derived.Test.YtokakgjcegmabaaOctE
namespace Go.Proofs.Ytokakgjcegmabaa.Po
set_option maxRecDepth 100000
set_option linter.unusedVariables false
set_option linter.unusedSimpArgs false
open Go.RowKit
open List (getElem_toArray getElem_cons_zero getElem_cons_succ setIfInBounds_toArray set_cons_zero set_cons_succ)

open Go.Conc Go.Shelf
attribute [local go_sem] Oper.semAt_some
/-- The iterator's own kinds. -/
def lvP (m k t : Nat) : Prop := m ≤ k ∧ (t = 4 ∨ t = 104)
theorem naQ : Mm.NA Try.prog 88 := ⟨_, Try.underlying88, rfl⟩
def lvN (k t : Nat) : Prop := False
theorem Im.stp {c b t : Nat} {lv : Nat → Nat → Prop} {w W : World} {xs : List Value} (st : Rt.Stp b w W) (ha : Arr w b t xs) (hl : lv b t) : Im all c lv w W :=
  ⟨(st.below 0 (Nat.zero_le _)).os, (st.below 0 (Nat.zero_le _)).tape, (st.below 0 (Nat.zero_le _)).output, by rw [st.size]; exact Nat.le_refl _, fun k o hk _ hv _ => (st.other k (fun e => by subst e; rw [show w.heap[k]? = _ from ha] at hk; cases hk; exact hv hl)).trans hk⟩
set_option maxHeartbeats 8000000 in
theorem each11_in (m n0 : Nat) (hn0 : 1 ≤ n0) (W : World) (l c B b3 b2 : Nat) (x y : Lt) (J' : World → Prop) (hJ : ∀ W W', J' W → Im all c (lvP m) W W' → J' W')
    (h3 : Arr W b3 4 [.bool true]) (h2 : Arr W b2 104 [.func (.yield l) #[] #[]]) (hm3 : m ≤ b3) (hm2 : m ≤ b2) (hB : b3 ≠ B) (hc : b3 ≠ c)
    (hY : YieldAt Fence.wide (n0 - 1) Try.prog l #[.pointer (some ⟨B, 0, none⟩)] W fun e W' => e = .returned (.bool true) ∧ J' W' ∧ Arr W' B 96 y.row ∧ Kp c (lvP m) W W') :
    CallsIn Fence.wide n0 Try.prog 55 #[.pointer (some ⟨B, 0, none⟩), .pointer (some ⟨b3, 0, none⟩), .pointer (some ⟨b2, 0, none⟩)] W fun e W' => e = .returned (.bool false) ∧ J' W' ∧ Arr W' b3 4 [.bool true] ∧ Arr W' b2 104 [.func (.yield l) #[] #[]] ∧ Arr W' B 96 y.row ∧ W'.heap[c]? = W.heap[c]? ∧ W.heap.size ≤ W'.heap.size := by
  refine callsIn_of_wp Try.func55 rfl trivial ?_ rfl
  simp only [Try.ntmps55, List.size_toArray, List.length_cons, List.length_nil, Nat.reduceAdd, Nat.reduceSub, Array.replicate_succ, Array.replicate_zero, List.push_toArray, List.append_toArray, List.nil_append, List.cons_append]
  have x3 := h3.cell 0 (by simp)
  have x2 := h2.cell 0 (by simp)
  simp only [List.getElem_cons_zero] at x3 x2
  obtain ⟨fn, tmps, assign, body, hy, hR⟩ := hY
  have HR := hidp hR
  clear hR
  gi_wp2
  clear hy x3 x2
  refine HR.out.mono ?_
  rintro e1 W1 ⟨rfl, hJ1, ha1, hk1⟩
  have HA3 := hidp (hk1.arr h3 ⟨hm3, .inl rfl⟩)
  have HJ1 := hidp hJ1
  have HA1 := hidp ha1
  have HK1 := hidp hk1
  clear hJ1 ha1 hk1
  gi_wp2_with (first | (refine Rnd.to_in Rnd.wideF rfl ?_; refine Rt.wpL_putF rfl 4 (.tmp 1) (.tmp 10) rfl b3 0 (.bool true) rfl rfl (by kernel_rfl) rfl [.bool true] HA3.out (by simp) ?_; intro W2 ha2 st2; refine ⟨rfl, ?_⟩; have HA2 := hidp ha2; have HS2 := hidp st2; clear ha2 st2))
  go_ret
  refine ⟨rfl, hJ _ _ HJ1.out (Im.stp HS2.out HA3.out ⟨hm3, .inl rfl⟩), HA2.out, HS2.out.arr ?_ (HK1.out.arr h2 ⟨hm2, .inr rfl⟩), HS2.out.arr (fun e => hB e.symm) HA1.out, (HS2.out.other c (fun e => hc e.symm)).trans HK1.out.chan, by rw [HS2.out.size]; exact HK1.out.size⟩
  rintro rfl
  have h4 := (show W1.heap[b2]? = _ from HK1.out.arr h2 ⟨hm2, .inr rfl⟩).symm.trans (show W1.heap[b2]? = _ from HA3.out)
  injection h4 with h4
  injection h4 with _ h4
  exact absurd h4 (by decide)

def SeqP (n : Nat) (lb : Array Value) (c cap : Nat) (f : Lt → Lt) (L : List Lt) (w : World) : Prop := SeqC Fence.wide n Try.prog 54 lb c cap (lvP w.heap.size) 96 Lt.row f L w
set_option maxHeartbeats 8000000 in
theorem each1_seq (n : Nat) (hn : 1 ≤ n) (w0 : World) (c cap bq : Nat) (f : Lt → Lt) (L : List Lt) (hq : Arr w0 bq 88 [.chan (some c)]) (hcap : L.length ≤ cap) (hL : L.length ≤ 1048576) : SeqP n #[.pointer (some ⟨bq, 0, none⟩)] c cap f L w0 := by
  intro l J w hb hJ hY h0 hch
  have HCH := hidp hch
  have h0' := hidp h0
  have HB := hidp hb
  have H := hidp (Mm.M.nil w)
  have HQ := hidp (hq.below hb hq.lt)
  clear hch h0 hb
  refine callsIn_wide.2 ?_
  have hct := hidp (fun U b2 b3 (ha2 : Arr U b2 104 [.func (.yield l) #[] #[]]) (ha3 : Arr U b3 4 [.bool true]) (hlt2 : b2 < U.heap.size) (hlt3 : b3 < U.heap.size) (hj : J [] U) (hc : ChAt U c cap (L.map Lt.val)) (hs : w0.heap.size ≤ U.heap.size) (h3m : w0.heap.size ≤ b3) (h2m : w0.heap.size ≤ b2) =>
    turn_any U c cap L f (fun _ => false) 55 #[.pointer (some ⟨b3, 0, none⟩), .pointer (some ⟨b2, 0, none⟩)] lvN (enters_of Try.func55 (by kernel_rfl) rfl)
      (fun pre W => J pre W ∧ Arr W b3 4 [.bool true] ∧ Arr W b2 104 [.func (.yield l) #[] #[]])
      (fun pre W W' h k => ⟨hJ _ _ _ h.1 (Im.toLv k), k.arr h.2.1 (hc.ne ha3) (fun h => h) trivial, k.arr h.2.2 (hc.ne ha2) (fun h => h) trivial⟩)
      (fun pre x B V hj2 hpx hB ha _ => callsIn_wide.1 ((each11_in w0.heap.size n hn V l c B b3 b2 x (f x) (J (pre ++ [x])) (fun W W' => hJ _ _ _) hj2.2.1 hj2.2.2 h3m h2m (by omega) (hc.ne ha3) (hY pre x B V hj2.1 hpx (by omega) ha)).mono (by
        rintro e W' ⟨he, h1, h2, h3, h4, h5, h6⟩
        exact ⟨he, ⟨h1, h2, h3⟩, h4, h5, h6⟩)))
      ⟨hj, ha3, ha2⟩ hc hcap hL)
  go_enter Try.func54, Try.ntmps54
  have tk0 := hidp trivial
  go_wp2_with (first | (clear tk0; (refine Mm.box1 104 H rfl (.tmp 0) rfl ((.func (.yield l) #[] #[])) rfl rfl ?_; clear H; intro b2 _ H nw; have hb := nw.below; clear hb nw); (try simp only [Act.put, setIfInBounds_toArray, set_cons_zero, set_cons_succ]); have tk1 := hidp trivial) | (clear tk1; (refine Mm.new1 4 (.bool false) (by kernel_rfl) rfl H (some 3) rfl rfl rfl ?_; clear H; intro b3 _ H nw; have hb := nw.below; clear hb nw); (try simp only [Act.put, setIfInBounds_toArray, set_cons_zero, set_cons_succ]); have tk2 := hidp trivial) | (clear tk2; (refine Mm.putF0 H rfl 4 (.tmp 3) (.const (.bool true)) 0 (.bool true) rfl rfl rfl (by kernel_rfl) rfl (of_decide_eq_true rfl) ?_; intro _ H2 st; clear st H; have H : Hid (Mm.M w.heap.size w _ ([⟨b3, 4, [.bool true]⟩, ⟨b2, 104, [(.func (.yield l) #[] #[])]⟩])) := H2; clear H2); (try simp only [Act.put, setIfInBounds_toArray, set_cons_zero, set_cons_succ]); have tk3 := hidp trivial) | (clear tk3; (refine Mm.ldc naQ rfl (.tmp 1) ⟨bq, 0, none⟩ (.chan (some c)) rfl rfl ((H.out.below.cell (p := ⟨bq, 0, none⟩) HQ.out.lt).trans (HQ.out.cell 0 (by simp))) ?_); (try simp only [Act.put, setIfInBounds_toArray, set_cons_zero, set_cons_succ]); have tk4 := hidp trivial) | (clear tk4; (go_at_call 49; refine (hct.out _ b2 b3 H.out.at1 H.out.at0 H.out.at1.lt H.out.at0.lt (hJ _ _ _ h0'.out (Im.of_below H.out.below)) (HCH.out.to (H.out.below.block c HCH.out.lt)) (Nat.le_trans HB.out.size H.out.below.size) (Nat.le_trans HB.out.size (H.out.ge ⟨b3, 4, [.bool true]⟩ (by simp))) (Nat.le_trans HB.out.size (H.out.ge ⟨b2, 104, [.func (.yield l) #[] #[]]⟩ (by simp)))).mono ?_; rintro e W9 ⟨rfl, hj9, hc9, hs9⟩; have HJ9 := hidp hj9; have HC9 := hidp hc9; clear hj9 hc9 hct); (try simp only [Act.put, setIfInBounds_toArray, set_cons_zero, set_cons_succ]); have tk5 := hidp trivial))
  try clear tk5
  go_end0
  exact ⟨⟨_, rfl⟩, HJ9.out.1, by have := HC9.out; rw [show (L.filter fun _ => !false) = L from List.filter_eq_self.2 (fun _ _ => rfl)] at this; exact this⟩
end Go.Proofs.Ytokakgjcegmabaa.Po
