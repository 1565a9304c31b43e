/-
  post: letters, the queue's iterator as it is handed back; a box in memory.
-/
import Derived.Test.YtokakgjcegmabaaPoD
import Derived.Deep.MidRow
namespace Go.Proofs.Ytokakgjcegmabaa.Po
set_option maxRecDepth 100000
set_option linter.unusedVariables false
set_option linter.unusedSimpArgs false
open Go.RowKit
open List (getElem_toArray getElem_cons_zero getElem_cons_succ setIfInBounds_toArray set_cons_zero set_cons_succ)

open Go.Conc Go.Shelf
theorem naB : Mm.NA Try.prog 4 := ⟨_, Try.underlying4, rfl⟩
theorem naI : Mm.NA Try.prog 3 := ⟨_, Try.underlying3, rfl⟩
theorem naI64 : Mm.NA Try.prog 2 := ⟨_, Try.underlying2, rfl⟩
theorem naS : Mm.NA Try.prog 9 := ⟨_, Try.underlying9, rfl⟩
def zM : List Value := [.int .i64 0, .int .i64 0, .string ⟨#[]⟩]
theorem rtM : Rt.RT Try.prog 75 3 zM := ⟨rfl, .inl ⟨_, Try.underlying75⟩, by kernel_rfl⟩
/-- A letter's mail. -/
def Lt.mail (x : Lt) : List Value := [.int .i64 x.id, .int .i64 x.to, .string x.tx]
theorem Lt.mone (x : Lt) : ∀ v ∈ x.mail, v.oneCell' = true := by intro v hv; simp [Lt.mail] at hv; rcases hv with rfl | rfl | rfl <;> rfl
/-- A letter is due. -/
def dueB (x : Lt) (now gap : Int) : Bool := !x.sent || decide (gap ≤ now - x.at_) || decide (now < x.at_)
set_option maxHeartbeats 4000000 in
theorem due_any (w : World) (x : Lt) (now gap : Int) (hn : 0 ≤ now ∧ now ≤ 1099511627776) (ha : 0 ≤ x.at_ ∧ x.at_ ≤ 1099511627776) : Calls Try.prog 47 #[.agg x.row.toArray, .int .i64 now, .int .i64 gap] w fun e w' => e = .returned (.bool (dueB x now gap)) ∧ Below w.heap.size w w' := by
  have H := hidp (Mm.M.nil w)
  have hw := show IntKind.i64.wrap (now - x.at_) = now - x.at_ from by rw [IntKind.wrap_i64]; omega
  unfold Lt.row
  cases hs : x.sent with
  | false =>
    have HD := hidp (show dueB x now gap = true from by unfold dueB; rw [hs]; rfl)
    go_enter Try.func47, Try.ntmps47
    have tk0 := hidp trivial
    go_wp2_with (first | (clear tk0; (refine Mm.box 96 H rfl (.tmp 0) rfl [.int .i64 x.id, .int .i64 x.to, .string x.tx, .bool false, .int .i64 x.at_] rfl ?_; clear H; intro b3 _ H nw; have hb := nw.below; clear hb nw); (try simp only [Act.put, setIfInBounds_toArray, set_cons_zero, set_cons_succ]); have tk1 := hidp trivial) | (clear tk1; (refine Mm.ld0 naB H rfl (.tmp 7) 3 _ rfl rfl rfl ?_); (try simp only [Act.put, setIfInBounds_toArray, set_cons_zero, set_cons_succ]); have tk2 := hidp trivial))
    try clear tk2
    go_ret
    exact ⟨by rw [HD.out]; rfl, H.out.below⟩
  | true =>
    by_cases h1 : gap ≤ now - x.at_
    · have e1 : decide (gap ≤ now - x.at_) = true := decide_eq_true h1
      have HD := hidp (show dueB x now gap = true from by unfold dueB; rw [hs, e1]; rfl)
      go_enter Try.func47, Try.ntmps47
      have tk0 := hidp trivial
      go_wp2_with (first | (clear tk0; (refine Mm.box 96 H rfl (.tmp 0) rfl [.int .i64 x.id, .int .i64 x.to, .string x.tx, .bool true, .int .i64 x.at_] rfl ?_; clear H; intro b3 _ H nw; have hb := nw.below; clear hb nw); (try simp only [Act.put, setIfInBounds_toArray, set_cons_zero, set_cons_succ]); have tk1 := hidp trivial) | (clear tk1; (refine Mm.ld0 naB H rfl (.tmp 7) 3 _ rfl rfl rfl ?_); (try simp only [Act.put, setIfInBounds_toArray, set_cons_zero, set_cons_succ]); have tk2 := hidp trivial) | (clear tk2; (refine Mm.ld0 naI64 H rfl (.tmp 12) 4 _ rfl rfl rfl ?_); (try simp only [Act.put, setIfInBounds_toArray, set_cons_zero, set_cons_succ]); have tk3 := hidp trivial))
      try clear tk3
      go_ret
      exact ⟨by rw [HD.out]; rfl, H.out.below⟩
    · have e1 : decide (gap ≤ now - x.at_) = false := decide_eq_false h1
      have HD := hidp (show dueB x now gap = decide (now < x.at_) from by unfold dueB; rw [hs, e1]; rfl)
      go_enter Try.func47, Try.ntmps47
      have tk0 := hidp trivial
      go_wp2_with (first | (clear tk0; (refine Mm.box 96 H rfl (.tmp 0) rfl [.int .i64 x.id, .int .i64 x.to, .string x.tx, .bool true, .int .i64 x.at_] rfl ?_; clear H; intro b3 _ H nw; have hb := nw.below; clear hb nw); (try simp only [Act.put, setIfInBounds_toArray, set_cons_zero, set_cons_succ]); have tk1 := hidp trivial) | (clear tk1; (refine Mm.ld0 naB H rfl (.tmp 7) 3 _ rfl rfl rfl ?_); (try simp only [Act.put, setIfInBounds_toArray, set_cons_zero, set_cons_succ]); have tk2 := hidp trivial) | (clear tk2; (refine Mm.ld0 naI64 H rfl (.tmp 12) 4 _ rfl rfl rfl ?_); (try simp only [Act.put, setIfInBounds_toArray, set_cons_zero, set_cons_succ]); have tk3 := hidp trivial) | (clear tk3; (refine Mm.ld0 naI64 H rfl (.tmp 19) 4 _ rfl rfl rfl ?_); (try simp only [Act.put, setIfInBounds_toArray, set_cons_zero, set_cons_succ]); have tk4 := hidp trivial))
      try clear tk4
      go_ret
      exact ⟨by rw [HD.out]; rfl, H.out.below⟩

/-- A row out of a row's middle. -/
theorem wpL_mid {P : Program} {T k : Nat} {z : List Value} {ops : Array Oper} {rest : List Oper} {o : Oper} {a : Act} {w : World} {Q : Exit → Act → World → Prop} (R : Rt.RT P T k z) (hgd : o.guard = none) (x : Operand) (b i : Nat) (xs : List Value) (ho : o.op = .load T x) (hx : a.eval x = .pointer (some ⟨b, i, none⟩)) (hl : xs.length = k) (hr : w.rangeAt b i xs)
    (h : wpList P ops Q rest (a.put o.dst (.agg xs.toArray)) w) : wpList P ops Q (o :: rest) a w := by
  rcases R.ut with ⟨fs, hu⟩ | ⟨n, e, hu⟩
  · exact wpList_plain hgd fun K hK => wp_load_mid T x ho b i hx xs _ hr hu rfl (by rw [R.isz, hl]) (hK _ _ h)
  · exact wpList_plain hgd fun K hK => wp_load_mid T x ho b i hx xs _ hr hu rfl (by rw [R.isz, hl]) (hK _ _ h)
theorem mailAt (x : Lt) {w : World} {b : Nat} (h : Arr w b 96 x.row) : w.rangeAt b 0 x.mail := fun j u hj => by
  have hl := (List.getElem?_eq_some_iff.1 hj).1
  exact h.range j u (by rw [show x.row = x.mail ++ [.bool x.sent, .int .i64 x.at_] from rfl, List.getElem?_append_left hl]; exact hj)
set_option maxHeartbeats 4000000 in
theorem copied_any (w : World) (x : Lt) (hx : x.tx.size ≤ 140737488351232) : Calls Try.prog 48 #[.agg x.row.toArray] w fun e w' => e = .returned (.agg x.mail.toArray) ∧ Below w.heap.size w w' := by
  have H := hidp (Mm.M.nil w)
  go_enter Try.func48, Try.ntmps48
  have tk0 := hidp trivial
  go_wp2_with (first | (clear tk0; (refine Mm.box 96 H rfl (.tmp 0) rfl x.row rfl ?_; clear H; intro b1 _ H nw; have hb := nw.below; clear hb nw); (try simp only [Act.put, setIfInBounds_toArray, set_cons_zero, set_cons_succ]); have tk1 := hidp trivial) | (clear tk1; (refine Mm.new rtM H (some 2) rfl rfl rfl ?_; clear H; intro b2 _ H nw; have hb := nw.below; clear hb nw); (try simp only [Act.put, setIfInBounds_toArray, set_cons_zero, set_cons_succ]); have tk2 := hidp trivial) | (clear tk2; (refine wpL_mid rtM rfl (.tmp 4) b1 0 x.mail rfl rfl rfl (mailAt x H.out.at1) ?_); (try simp only [Act.put, setIfInBounds_toArray, set_cons_zero, set_cons_succ]); have tk3 := hidp trivial) | (clear tk3; (refine Mm.new rtM H (some 3) rfl rfl rfl ?_; clear H; intro b3 _ H nw; have hb := nw.below; clear hb nw); (try simp only [Act.put, setIfInBounds_toArray, set_cons_zero, set_cons_succ]); have tk4 := hidp trivial) | (clear tk4; (refine Mm.put0 rtM H rfl (.tmp 3) (.tmp 5) x.mail rfl rfl rfl rfl (Lt.mone x) rfl ?_; intro _ H2 st; clear st H; have H := H2; clear H2); (try simp only [Act.put, setIfInBounds_toArray, set_cons_zero, set_cons_succ]); have tk5 := hidp trivial) | (clear tk5; (refine Mm.ld2 naS H rfl (.tmp 7) 2 _ rfl rfl rfl ?_); (try simp only [Act.put, setIfInBounds_toArray, set_cons_zero, set_cons_succ]); have tk6 := hidp trivial) | (clear tk6; (go_at_call 39; refine (clone x.tx _ hx).mono ?_; rintro e _ ⟨rfl, hb⟩; replace H := hidp (H.out.call hb); clear hb); (try simp only [Act.put, setIfInBounds_toArray, set_cons_zero, set_cons_succ]); have tk7 := hidp trivial) | (clear tk7; (refine Mm.putF0 H rfl 9 (.tmp 10) (.tmp 9) 2 (.string x.tx) rfl rfl rfl (by kernel_rfl) rfl (of_decide_eq_true rfl) ?_; intro _ H2 st; clear st H; have H : Hid (Mm.M w.heap.size w _ ([⟨b3, 75, x.mail⟩, ⟨b2, 75, zM⟩, ⟨b1, 96, x.row⟩])) := H2; clear H2); (try simp only [Act.put, setIfInBounds_toArray, set_cons_zero, set_cons_succ]); have tk8 := hidp trivial) | (clear tk8; (refine Mm.get0 rtM H rfl (.tmp 3) rfl rfl rfl ?_); (try simp only [Act.put, setIfInBounds_toArray, set_cons_zero, set_cons_succ]); have tk9 := hidp trivial) | (clear tk9; (refine Mm.put1 rtM H rfl (.tmp 2) (.tmp 11) x.mail rfl rfl rfl rfl (Lt.mone x) rfl ?_; intro _ H2 st; clear st H; have H := H2; clear H2); (try simp only [Act.put, setIfInBounds_toArray, set_cons_zero, set_cons_succ]); have tk10 := hidp trivial))
  try clear tk10
  refine bodyPost_ret (Mm.ret_row rtM Try.results48 _ b2 _ rfl H.out.at1 rfl) rfl ⟨rfl, H.out.below⟩

set_option maxHeartbeats 4000000 in
theorem each_any (w : World) (c : Nat) : Calls Try.prog 46 #[.chan (some c)] w fun e w' => ∃ bq, e = .returned (.func (.func 54) #[] #[.pointer (some ⟨bq, 0, none⟩)]) ∧ Arr w' bq 88 [.chan (some c)] ∧ w.heap.size ≤ bq ∧ Below w.heap.size w w' := by
  have H := hidp (Mm.M.nil w)
  go_enter Try.func46, Try.ntmps46
  have tk0 := hidp trivial
  go_wp2_with (first | (clear tk0; (refine Mm.box1 88 H rfl (.tmp 0) rfl (.chan (some c)) rfl rfl ?_; clear H; intro b1 _ H nw; have hb := nw.below; clear hb nw); (try simp only [Act.put, setIfInBounds_toArray, set_cons_zero, set_cons_succ]); have tk1 := hidp trivial))
  try clear tk1
  go_ret
  exact ⟨b1, rfl, H.out.at0, H.out.ge ⟨b1, 88, [.chan (some c)]⟩ (by simp), H.out.below⟩
end Go.Proofs.Ytokakgjcegmabaa.Po
