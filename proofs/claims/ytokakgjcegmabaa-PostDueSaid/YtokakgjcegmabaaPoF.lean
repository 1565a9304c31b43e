/-
  post: boxes.
-/
import Derived.Test.YtokakgjcegmabaaPoE
import Derived.Deep.Cut
namespace Go.Proofs.Ytokakgjcegmabaa.Po
set_option maxRecDepth 100000
set_option linter.unusedVariables false
set_option linter.unusedSimpArgs false
open Go.RowKit
open List (getElem_toArray getElem_cons_zero getElem_cons_succ setIfInBounds_toArray set_cons_zero set_cons_succ)

open Go.Conc Go.Shelf
def pR (c : Nat) (gap last lost : Int) : List Value := [.chan (some c), .int .i64 gap, .int .i64 last, .int .i64 lost]
/-- A box in memory. -/
structure PostAt (w : World) (b c cap : Nat) (L : List Lt) (gap last lost : Int) : Prop where
  arr : Arr w b 90 (pR c gap last lost)
  ch : ChAt w c cap (L.map Lt.val)
theorem PostAt.to {w W : World} {b c cap : Nat} {L : List Lt} {gap last lost : Int} (h : PostAt w b c cap L gap last lost) (hb : Below w.heap.size w W) : PostAt W b c cap L gap last lost := ⟨h.arr.below hb h.arr.lt, h.ch.to (hb.block c h.ch.lt)⟩
/-- All that was there stands, but for a box and its queue. -/
structure Pk (b c : Nat) (w W : World) : Prop where
  os : W.os = w.os
  tape : W.tape = w.tape
  output : W.output = w.output
  size : w.heap.size ≤ W.heap.size
  same : ∀ k, k < w.heap.size → k ≠ b → k ≠ c → W.heap[k]? = w.heap[k]?
theorem Pk.of_below {b c : Nat} {w W : World} (h : Below w.heap.size w W) : Pk b c w W := ⟨h.os, h.tape, h.output, h.size, fun k hk _ _ => h.block k hk⟩
theorem Pk.of_stp {b c : Nat} {w W : World} (h : Rt.Stp b w W) : Pk b c w W :=
  ⟨(h.below 0 (Nat.zero_le _)).os, (h.below 0 (Nat.zero_le _)).tape, (h.below 0 (Nat.zero_le _)).output, by rw [h.size]; exact Nat.le_refl _, fun k _ hk _ => h.other k hk⟩
theorem Pk.of_im {b c : Nat} {w W : World} {lv : Nat → Nat → Prop} (h : Im all c lv w W) (hv : ∀ k t, k < w.heap.size → ¬ lv k t) : Pk b c w W :=
  ⟨h.os, h.tape, h.output, h.size, fun k hk _ hc => by
    obtain ⟨o, ho⟩ : ∃ o, w.heap[k]? = some o := ⟨_, Array.getElem?_eq_getElem hk⟩
    rw [ho]
    exact h.same k o ho hc (fun h => by cases o <;> first | exact hv _ _ hk h | exact h) trivial⟩
theorem Pk.of_ch {b c : Nat} {w W : World} (h : Ch c w W) : Pk b c w W := Pk.of_im h (fun _ _ _ h => h)
theorem Pk.trans {b c : Nat} {A B C : World} (h : Pk b c A B) (k : Pk b c B C) : Pk b c A C :=
  ⟨k.os.trans h.os, k.tape.trans h.tape, k.output.trans h.output, Nat.le_trans h.size k.size, fun j hj h1 h2 => (k.same j (Nat.lt_of_lt_of_le hj h.size) h1 h2).trans (h.same j hj h1 h2)⟩
section
variable {P : Program} {ops : Array Oper} {Q : Exit → Act → World → Prop} {S : World → Prop} {k : Nat} {o : Oper} {s : Scr} {a : Act} {w : World}
theorem s_build (ho : ops[k]? = some o) (hw : Region.wanted o (yielded ops a.tmps) = true) (T : TypeId) (parts : Array (Nat × Operand)) (hop : o.op = .build T parts) (xs : List Value)
    (hb : P.built T (parts.map fun (i, x) => (i, a.eval x)).toList = some xs.toArray) (h : wpScr P ops Q s S (a.put o.dst (.agg xs.toArray)) w) : wpScr P ops Q (.take k s) S a w :=
  s_val ho hw (fun w _ => by
    unfold execOp
    simp only [hop, Sem.run_bind, run_build w T _ _ hb, Result.andThen_ok]
    rfl) h
theorem regionQ {id : Nat} {ops : Array Oper} (s : Scr) (hm : P.follows .mixedOrders = true) (hs : Region.noSelect ops = true) (hd : s.depth ≤ ops.size) (hc : s.chk .any ops (Array.replicate ops.size false) = true) (hS : S w.drew)
    (h : wpScr P ops (NoPanic Q) s S a w.drew) : (Code.region id ops true).wp P Q a w :=
  wp_region_noPanic (wp_region_scr (S := S) s hm hs (fun _ _ _ _ _ h => h) hd hc hS h)
/-- A call in a script, whatever it leaves. -/
theorem o_callG {K : Act → World → Prop} {Rr : Ending → World → Prop} (ho : ops[k]? = some o) (hw : Region.wanted o (yielded ops a.tmps) = true) (f : FuncId) (args : Array Value) (hop : (execOp a.eval o).run P w = .ok (.enter f args) w) (hc : Calls P f args w Rr)
    (h : ∀ e W, Rr e W → ∃ v, e = .returned v ∧ S W ∧ K (a.put o.dst v) W) : opW P ops Q S k K a w := by
  refine ⟨o, ho, hw, ?_⟩
  unfold Oper.wp
  rw [hop]
  exact hc.mono fun e W hr => by obtain ⟨v, rfl, h1, h2⟩ := h e W hr; exact ⟨h1, h2⟩
end
set_option maxHeartbeats 4000000 in
theorem known_any (w : World) (b : Nat) : Calls Try.prog 44 #[.pointer (some ⟨b, 0, none⟩)] w fun e w' => e = .returned (.pointer (some ⟨b, 0, none⟩)) ∧ w = w' := by
  go_enter Try.func44, Try.ntmps44
  go_wp2
  go_ret
  exact ⟨rfl, rfl⟩
theorem bytesL : ∃ i, Try.prog.info? 96 = some i ∧ i.bytes = 48 := by
  have h : (Try.prog.info? 96).map (·.bytes) = some 48 := by kernel_rfl
  obtain ⟨i, hi, hb⟩ := Option.map_eq_some_iff.1 h
  exact ⟨i, hi, hb⟩
theorem hmk {n : Nat} (hn : n ≤ 256) (w : World) : (Instr.makeChan 88 (.int .i64 (n : Int))).run Try.prog w = .ok (.chan (some w.heap.size)) (w.alloc (.chan n #[] false 0 0 false)) := by
  obtain ⟨i, hi, hb⟩ := bytesL
  exact run_makeChan (P := Try.prog) (w := w) Try.underlying88 hi .i64 n (by omega) (by rw [hb]; omega)
def newOk (room gap : Int) : Bool := decide (1 ≤ room) && decide (room ≤ 256) && decide (1 ≤ gap) && decide (gap ≤ 1099511627776)
set_option maxHeartbeats 4000000 in
theorem new_no (w : World) (room gap : Int) (h : newOk room gap = false) : Calls Try.prog 23 #[.int .i64 room, .int .i64 gap] w fun e w' => e = .returned (.tuple #[.pointer none, .int .i64 1]) ∧ Below w.heap.size w w' := by
  by_cases h1 : room < 1
  · have e1 : decide (room < 1) = true := decide_eq_true h1
    go_enter Try.func23, Try.ntmps23
    go_wp2
    go_ret2
    exact ⟨rfl, Below.refl _ _⟩
  · have e1 : decide (room < 1) = false := decide_eq_false h1
    by_cases h2 : 256 < room
    · have e2 : decide (256 < room) = true := decide_eq_true h2
      go_enter Try.func23, Try.ntmps23
      go_wp2
      go_ret2
      exact ⟨rfl, Below.refl _ _⟩
    · have e2 : decide (256 < room) = false := decide_eq_false h2
      by_cases h3 : gap < 1
      · have e3 : decide (gap < 1) = true := decide_eq_true h3
        go_enter Try.func23, Try.ntmps23
        go_wp2
        go_ret2
        exact ⟨rfl, Below.refl _ _⟩
      · have e3 : decide (gap < 1) = false := decide_eq_false h3
        have h4 : 1099511627776 < gap := by simp [newOk] at h; omega
        have e4 : decide (1099511627776 < gap) = true := decide_eq_true h4
        go_enter Try.func23, Try.ntmps23
        go_wp2
        go_ret2
        exact ⟨rfl, Below.refl _ _⟩

set_option maxHeartbeats 4000000 in
theorem new_ok (w : World) (n : Nat) (gap : Int) (h : newOk (n : Int) gap = true) : Calls Try.prog 23 #[.int .i64 (n : Int), .int .i64 gap] w fun e w' => ∃ b c, e = .returned (.tuple #[.pointer (some ⟨b, 0, none⟩), .int .i64 0]) ∧ PostAt w' b c n [] gap 0 0 ∧ Below w.heap.size w w' ∧ w.heap.size ≤ b ∧ w.heap.size ≤ c := by
  have h' : 1 ≤ (n : Int) ∧ (n : Int) ≤ 256 ∧ 1 ≤ gap ∧ gap ≤ 1099511627776 := by simp [newOk] at h; omega
  obtain ⟨h1, h2, h3, h4⟩ := h'
  have e1 : decide ((n : Int) < 1) = false := decide_eq_false (by omega)
  have e2 : decide (256 < (n : Int)) = false := decide_eq_false (by omega)
  have e3 : decide (gap < 1) = false := decide_eq_false (by omega)
  have e4 : decide (1099511627776 < gap) = false := decide_eq_false (by omega)
  have hmk := fun W => hmk (n := n) (by omega) W
  clear h
  have hmc := hmk w
  go_enter Try.func23, Try.ntmps23
  have tk0 := hidp trivial
  go_wp2_with (first | (clear tk0; (refine Rt.wpL_build rfl 90 _ rfl (pR w.heap.size gap 0 0) (by kernel_rfl) ?_); (try simp only [Act.put, setIfInBounds_toArray, set_cons_zero, set_cons_succ]); have tk1 := hidp trivial) | (clear tk1; (refine Rt.wpL_box 90 rfl (.tmp 23) rfl (pR w.heap.size gap 0 0) rfl ?_; intro b W1 n1; have HN := hidp n1; clear n1); (try simp only [Act.put, setIfInBounds_toArray, set_cons_zero, set_cons_succ]); have tk2 := hidp trivial))
  try clear tk2
  go_ret2
  exact ⟨b, w.heap.size, rfl, ⟨HN.out.arr, ChAt.to ⟨0, 0, heap_alloc_new w _⟩ (HN.out.below.block _ (by simp))⟩, ((Below.refl _ w).alloc (Nat.le_refl _) _).trans (HN.out.below.mono (by simp)), Nat.le_trans (by simp) HN.out.le, Nat.le_refl _⟩

def putOk (to : Int) : Bool := decide (0 ≤ to) && decide (to ≤ 63)
set_option maxHeartbeats 4000000 in
theorem put_no (w : World) (b : Nat) (to : Int) (tx : ByteArray) (h : putOk to = false) : Calls Try.prog 26 #[(.pointer (some ⟨b, 0, none⟩)), .int .i64 to, .string tx] w fun e w' => e = .returned (.tuple #[.int .i64 0, .int .i64 1]) ∧ Below w.heap.size w w' := by
  by_cases h1 : to < 0
  · have e1 : decide (to < 0) = true := decide_eq_true h1
    go_enter Try.func26, Try.ntmps26
    have tk0 := hidp trivial
    go_wp2_with (first | (clear tk0; (go_at_call 44; refine (known_any _ b).mono ?_; rintro e _ ⟨rfl, rfl⟩); (try simp only [Act.put, setIfInBounds_toArray, set_cons_zero, set_cons_succ]); have tk1 := hidp trivial))
    try clear tk1
    go_ret2
    exact ⟨rfl, Below.refl _ _⟩
  · have e1 : decide (to < 0) = false := decide_eq_false h1
    have e2 : decide (63 < to) = true := decide_eq_true (by simp [putOk] at h; omega)
    go_enter Try.func26, Try.ntmps26
    have tk0 := hidp trivial
    go_wp2_with (first | (clear tk0; (go_at_call 44; refine (known_any _ b).mono ?_; rintro e _ ⟨rfl, rfl⟩); (try simp only [Act.put, setIfInBounds_toArray, set_cons_zero, set_cons_succ]); have tk1 := hidp trivial))
    try clear tk1
    go_ret2
    exact ⟨rfl, Below.refl _ _⟩

set_option maxHeartbeats 4000000 in
theorem put_fullP (w : World) (b c cap : Nat) (L : List Lt) (gap last lost : Int) (hp : PostAt w b c cap L gap last lost) (hf : cap ≤ L.length) (hl : 0 ≤ last ∧ last ≤ 1048576) (hlo : 0 ≤ lost ∧ lost ≤ 1048576) (to : Int) (tx : ByteArray) (hx : tx.size ≤ 140737488351232) (h : putOk to = true) :
    Calls Try.prog 26 #[(.pointer (some ⟨b, 0, none⟩)), .int .i64 to, .string tx] w fun e w' => e = .returned (.tuple #[.int .i64 0, .int .i64 8]) ∧ PostAt w' b c cap L gap last (lost + 1) ∧ Pk b c w w' := by
  have HP := hidp hp
  have e1 : decide (to < 0) = false := decide_eq_false (by simp [putOk] at h; omega)
  have e2 : decide (63 < to) = false := decide_eq_false (by simp [putOk] at h; omega)
  have hw1 := show IntKind.i64.wrap (last + 1) = last + 1 from by rw [IntKind.wrap_i64]; omega
  have hw2 := show IntKind.i64.wrap (lost + 1) = lost + 1 from by rw [IntKind.wrap_i64]; omega
  have H := hidp (Mm.M.nil w)
  clear hp h
  go_enter Try.func26, Try.ntmps26
  have tk0 := hidp trivial
  go_upto_region 6 with (first | (clear tk0; (go_at_call 44; refine (known_any _ b).mono ?_; rintro e _ ⟨rfl, rfl⟩); (try simp only [Act.put, setIfInBounds_toArray, set_cons_zero, set_cons_succ]); have tk1 := hidp trivial) | (clear tk1; (refine Mm.ldc naI rfl (.tmp 20) ⟨b, 2, none⟩ (.int .i64 last) rfl rfl ((HP.out.to H.out.below).arr.cell 2 (by simp [pR])) ?_); (try simp only [Act.put, setIfInBounds_toArray, set_cons_zero, set_cons_succ]); have tk2 := hidp trivial) | (clear tk2; (go_at_call 39; refine (clone tx _ hx).mono ?_; rintro e _ ⟨rfl, hb⟩; replace H := hidp (H.out.call hb); clear hb); (try simp only [Act.put, setIfInBounds_toArray, set_cons_zero, set_cons_succ]); have tk3 := hidp trivial) | (clear tk3; (refine Rt.wpL_build rfl 75 _ rfl [.int .i64 (last + 1), .int .i64 to, .string tx] (by kernel_rfl) ?_); (try simp only [Act.put, setIfInBounds_toArray, set_cons_zero, set_cons_succ]); have tk4 := hidp trivial) | (clear tk4; (refine Mm.new rtM H (some 9) rfl rfl rfl ?_; clear H; intro b9 _ H nw; have hb := nw.below; clear hb nw); (try simp only [Act.put, setIfInBounds_toArray, set_cons_zero, set_cons_succ]); have tk5 := hidp trivial) | (clear tk5; (refine Mm.put0 rtM H rfl (.tmp 9) (.tmp 27) [.int .i64 (last + 1), .int .i64 to, .string tx] rfl rfl rfl rfl (by simp [Value.oneCell']) rfl ?_; intro _ H2 st; clear st H; have H := H2; clear H2); (try simp only [Act.put, setIfInBounds_toArray, set_cons_zero, set_cons_succ]); have tk6 := hidp trivial))
  try clear tk6
  refine Mm.region H (.take 0 (.take 1 (.take 2 (.take 3 (.take 4 (.take 5 (.one 6 (.take 7 .done)))))))) (by kernel_rfl) (by kernel_rfl) (by simp [Scr.depth]) (by kernel_rfl) ?_
  clear H
  intro _ H hb
  clear hb
  apply s_val
  case ho | hw => rfl
  case hv => intro w hw; go_simp; first | done | rfl
  simp only [Act.put, getElem_toArray, getElem_cons_zero, getElem_cons_succ, setIfInBounds_toArray, set_cons_zero, set_cons_succ]
  apply s_val
  case ho | hw => rfl
  case hv => intro w hw; go_simp; first | done | rfl
  simp only [Act.put, getElem_toArray, getElem_cons_zero, getElem_cons_succ, setIfInBounds_toArray, set_cons_zero, set_cons_succ]
  apply s_val
  case ho | hw => rfl
  case hv => intro w hw; go_simp; first | done | rfl
  simp only [Act.put, getElem_toArray, getElem_cons_zero, getElem_cons_succ, setIfInBounds_toArray, set_cons_zero, set_cons_succ]
  refine Mm.s_ldc naQ rfl rfl (.tmp 30) ⟨b, 0, none⟩ (.chan (some c)) rfl rfl (fun W h => (HP.out.to h.below).arr.cell 0 (by simp [pR])) ?_
  simp only [Act.put, getElem_toArray, getElem_cons_zero, getElem_cons_succ, setIfInBounds_toArray, set_cons_zero, set_cons_succ]
  refine Mm.sget0 rtM (fun w h => h) rfl rfl (.tmp 9) rfl rfl rfl ?_
  simp only [Act.put, getElem_toArray, getElem_cons_zero, getElem_cons_succ, setIfInBounds_toArray, set_cons_zero, set_cons_succ]
  refine s_build rfl rfl 96 _ rfl (Lt.row ⟨last + 1, to, tx, false, 0⟩) (by kernel_rfl) ?_
  simp only [Act.put, getElem_toArray, getElem_cons_zero, getElem_cons_succ, setIfInBounds_toArray, set_cons_zero, set_cons_succ]
  refine o_callG rfl rfl 45 #[.chan (some c), .agg (Lt.row ⟨last + 1, to, tx, false, 0⟩).toArray] (by go_simp; first | done | rfl) (put_full _ c cap _ ⟨last + 1, to, tx, false, 0⟩ (HP.out.to H.out.below).ch (by rw [List.length_map]; exact hf)) ?_
  rintro e W6 ⟨rfl, hb6⟩
  replace H := hidp (H.out.call hb6)
  clear hb6
  refine ⟨.bool false, rfl, H.out, ?_⟩
  simp only [Act.put, getElem_toArray, getElem_cons_zero, getElem_cons_succ, setIfInBounds_toArray, set_cons_zero, set_cons_succ]
  apply s_val
  case ho | hw => rfl
  case hv => intro w hw; go_simp; first | done | rfl
  simp only [Act.put, getElem_toArray, getElem_cons_zero, getElem_cons_succ, setIfInBounds_toArray, set_cons_zero, set_cons_succ]
  refine NoPanic.normal ?_
  have tk0 := hidp trivial
  go_wp2_with (first | (clear tk0; (refine Mm.ldc naI rfl (.tmp 38) ⟨b, 3, none⟩ (.int .i64 lost) rfl rfl ((HP.out.to H.out.below).arr.cell 3 (by simp [pR])) ?_); (try simp only [Act.put, setIfInBounds_toArray, set_cons_zero, set_cons_succ]); have tk1 := hidp trivial) | (clear tk1; (refine Rt.wpL_putF rfl 3 (.tmp 42) (.tmp 40) rfl b 3 (.int .i64 (lost + 1)) rfl rfl (by kernel_rfl) rfl (pR c gap last lost) (HP.out.to H.out.below).arr (by simp [pR]) ?_; intro W9 ha9 st9; have HA9 := hidp ha9; have HS9 := hidp st9; clear ha9 st9); (try simp only [Act.put, setIfInBounds_toArray, set_cons_zero, set_cons_succ]); have tk2 := hidp trivial))
  try clear tk2
  go_ret2
  exact ⟨rfl, ⟨HA9.out, (HP.out.to H.out.below).ch.to (HS9.out.other c ((HP.out.to H.out.below).ch.ne (HP.out.to H.out.below).arr).symm)⟩, (Pk.of_below H.out.below).trans (Pk.of_stp HS9.out)⟩

set_option maxHeartbeats 4000000 in
theorem put_roomP (w : World) (b c cap : Nat) (L : List Lt) (gap last lost : Int) (hp : PostAt w b c cap L gap last lost) (hf : L.length < cap) (hl : 0 ≤ last ∧ last ≤ 1048576) (to : Int) (tx : ByteArray) (hx : tx.size ≤ 140737488351232) (h : putOk to = true) :
    Calls Try.prog 26 #[(.pointer (some ⟨b, 0, none⟩)), .int .i64 to, .string tx] w fun e w' => e = .returned (.tuple #[.int .i64 (last + 1), .int .i64 0]) ∧ PostAt w' b c cap (L ++ [⟨last + 1, to, tx, false, 0⟩]) gap (last + 1) lost ∧ Pk b c w w' := by
  have HP := hidp hp
  have e1 : decide (to < 0) = false := decide_eq_false (by simp [putOk] at h; omega)
  have e2 : decide (63 < to) = false := decide_eq_false (by simp [putOk] at h; omega)
  have hw1 := show IntKind.i64.wrap (last + 1) = last + 1 from by rw [IntKind.wrap_i64]; omega
  have H := hidp (Mm.M.nil w)
  clear hp h
  go_enter Try.func26, Try.ntmps26
  have tk0 := hidp trivial
  go_upto_region 6 with (first | (clear tk0; (go_at_call 44; refine (known_any _ b).mono ?_; rintro e _ ⟨rfl, rfl⟩); (try simp only [Act.put, setIfInBounds_toArray, set_cons_zero, set_cons_succ]); have tk1 := hidp trivial) | (clear tk1; (refine Mm.ldc naI rfl (.tmp 20) ⟨b, 2, none⟩ (.int .i64 last) rfl rfl ((HP.out.to H.out.below).arr.cell 2 (by simp [pR])) ?_); (try simp only [Act.put, setIfInBounds_toArray, set_cons_zero, set_cons_succ]); have tk2 := hidp trivial) | (clear tk2; (go_at_call 39; refine (clone tx _ hx).mono ?_; rintro e _ ⟨rfl, hb⟩; replace H := hidp (H.out.call hb); clear hb); (try simp only [Act.put, setIfInBounds_toArray, set_cons_zero, set_cons_succ]); have tk3 := hidp trivial) | (clear tk3; (refine Rt.wpL_build rfl 75 _ rfl [.int .i64 (last + 1), .int .i64 to, .string tx] (by kernel_rfl) ?_); (try simp only [Act.put, setIfInBounds_toArray, set_cons_zero, set_cons_succ]); have tk4 := hidp trivial) | (clear tk4; (refine Mm.new rtM H (some 9) rfl rfl rfl ?_; clear H; intro b9 _ H nw; have hb := nw.below; clear hb nw); (try simp only [Act.put, setIfInBounds_toArray, set_cons_zero, set_cons_succ]); have tk5 := hidp trivial) | (clear tk5; (refine Mm.put0 rtM H rfl (.tmp 9) (.tmp 27) [.int .i64 (last + 1), .int .i64 to, .string tx] rfl rfl rfl rfl (by simp [Value.oneCell']) rfl ?_; intro _ H2 st; clear st H; have H := H2; clear H2); (try simp only [Act.put, setIfInBounds_toArray, set_cons_zero, set_cons_succ]); have tk6 := hidp trivial))
  try clear tk6
  refine regionQ (S := fun W => Arr W b 90 (pR c gap last lost) ∧ Arr W b9 75 [.int .i64 (last + 1), .int .i64 to, .string tx]) (.take 0 (.take 1 (.take 2 (.take 3 (.take 4 (.take 5 (.one 6 (.take 7 .done)))))))) (by kernel_rfl) (by kernel_rfl) (by simp [Scr.depth]) (by kernel_rfl) ⟨(HP.out.to H.out.drew.below).arr, H.out.at0⟩ ?_
  replace H := hidp H.out.drew
  apply s_val
  case ho | hw => rfl
  case hv => intro w hw; go_simp; first | done | rfl
  simp only [Act.put, getElem_toArray, getElem_cons_zero, getElem_cons_succ, setIfInBounds_toArray, set_cons_zero, set_cons_succ]
  apply s_val
  case ho | hw => rfl
  case hv => intro w hw; go_simp; first | done | rfl
  simp only [Act.put, getElem_toArray, getElem_cons_zero, getElem_cons_succ, setIfInBounds_toArray, set_cons_zero, set_cons_succ]
  apply s_val
  case ho | hw => rfl
  case hv => intro w hw; go_simp; first | done | rfl
  simp only [Act.put, getElem_toArray, getElem_cons_zero, getElem_cons_succ, setIfInBounds_toArray, set_cons_zero, set_cons_succ]
  refine Mm.s_ldc naQ rfl rfl (.tmp 30) ⟨b, 0, none⟩ (.chan (some c)) rfl rfl (fun W h => h.1.cell 0 (by simp [pR])) ?_
  simp only [Act.put, getElem_toArray, getElem_cons_zero, getElem_cons_succ, setIfInBounds_toArray, set_cons_zero, set_cons_succ]
  refine Rt.s_get rtM rfl rfl (.tmp 9) rfl b9 [.int .i64 (last + 1), .int .i64 to, .string tx] rfl rfl (fun W h => h.2) ?_
  simp only [Act.put, getElem_toArray, getElem_cons_zero, getElem_cons_succ, setIfInBounds_toArray, set_cons_zero, set_cons_succ]
  refine s_build rfl rfl 96 _ rfl (Lt.row ⟨last + 1, to, tx, false, 0⟩) (by kernel_rfl) ?_
  simp only [Act.put, getElem_toArray, getElem_cons_zero, getElem_cons_succ, setIfInBounds_toArray, set_cons_zero, set_cons_succ]
  refine o_callG rfl rfl 45 #[.chan (some c), .agg (Lt.row ⟨last + 1, to, tx, false, 0⟩).toArray] (by go_simp; first | done | rfl) (put_room _ c cap _ ⟨last + 1, to, tx, false, 0⟩ (HP.out.to H.out.below).ch (by rw [List.length_map]; exact hf)) ?_
  rintro e W6 ⟨rfl, hc6, hk6⟩
  have HC6 := hidp hc6
  have HK6 := hidp (Pk.of_ch (b := b) hk6)
  have HA6 := hidp (hk6.arr (HP.out.to H.out.below).arr ((HP.out.to H.out.below).ch.ne (HP.out.to H.out.below).arr) (fun h => h) trivial)
  have HB6 := hidp H.out.below
  have hm6 := hk6.arr H.out.at0 ((HP.out.to H.out.below).ch.ne H.out.at0) (fun h => h) trivial
  clear hc6 hk6
  refine ⟨.bool true, rfl, ⟨HA6.out, hm6⟩, ?_⟩
  simp only [Act.put, getElem_toArray, getElem_cons_zero, getElem_cons_succ, setIfInBounds_toArray, set_cons_zero, set_cons_succ]
  apply s_val
  case ho | hw => rfl
  case hv => intro w hw; go_simp; first | done | rfl
  simp only [Act.put, getElem_toArray, getElem_cons_zero, getElem_cons_succ, setIfInBounds_toArray, set_cons_zero, set_cons_succ]
  refine NoPanic.normal ?_
  have tk0 := hidp trivial
  go_wp2_with (first | (clear tk0; (refine Rt.wpL_putF rfl 3 (.tmp 46) (.tmp 44) rfl b 2 (.int .i64 (last + 1)) rfl rfl (by kernel_rfl) rfl (pR c gap last lost) HA6.out (by simp [pR]) ?_; intro W9 ha9 st9; have HA9 := hidp ha9; have HS9 := hidp st9; clear ha9 st9); (try simp only [Act.put, setIfInBounds_toArray, set_cons_zero, set_cons_succ]); have tk1 := hidp trivial))
  try clear tk1
  go_ret2
  exact ⟨rfl, ⟨HA9.out, by rw [List.map_append]; exact HC6.out.to (HS9.out.other c (HC6.out.ne HA6.out).symm)⟩, ((Pk.of_below HB6.out).trans HK6.out).trans (Pk.of_stp HS9.out)⟩

end Go.Proofs.Ytokakgjcegmabaa.Po
