
/-
  member: the small functions over a move.
-/
import Derived.Test.YtlgmgllilmlffaaDoorMbA
namespace Go.Proofs.YtlgmgllilmlffaaDoor
set_option maxRecDepth 100000
set_option linter.unusedVariables false
set_option linter.unusedSimpArgs false
open Go.RowKit


theorem arr9 {w : World} {b T : Nat} {x0 x1 x2 x3 x4 x5 x6 x7 x8 : Value} (h : Arr w b T [x0, x1, x2, x3, x4, x5, x6, x7, x8]) : w.cell? ⟨b, 0, none⟩ = some x0 ∧ w.cell? ⟨b, 1, none⟩ = some x1 ∧ w.cell? ⟨b, 2, none⟩ = some x2 ∧ w.cell? ⟨b, 3, none⟩ = some x3 ∧ w.cell? ⟨b, 4, none⟩ = some x4 ∧ w.cell? ⟨b, 5, none⟩ = some x5 ∧ w.cell? ⟨b, 6, none⟩ = some x6 ∧ w.cell? ⟨b, 7, none⟩ = some x7 ∧ w.cell? ⟨b, 8, none⟩ = some x8 :=
  ⟨h.cell 0 (by simp), h.cell 1 (by simp), h.cell 2 (by simp), h.cell 3 (by simp), h.cell 4 (by simp), h.cell 5 (by simp), h.cell 6 (by simp), h.cell 7 (by simp), h.cell 8 (by simp)⟩
/-- Behind the laying of a row. -/
structure NewAt (w W : World) (b t : Nat) (xs : List Value) : Prop where
  at_ : b = w.heap.size
  size : W.heap.size = w.heap.size + 1
  arr : Arr W b t xs
  below : Below w.heap.size w W
theorem NewAt.mk' (w : World) (t : Nat) (xs : List Value) : NewAt w (w.alloc (.cells xs.toArray t)) w.heap.size t xs := ⟨rfl, by simp, Arr.new _ _ _, (Below.refl _ w).alloc (Nat.le_refl _) _⟩
theorem NewAt.old {w W : World} {b t c u : Nat} {xs ys : List Value} (h : NewAt w W b t xs) (ha : Arr w c u ys) : Arr W c u ys := ha.below h.below ha.lt
theorem mv_size (xs : List Value) (h : xs.length = 9) : (Tryd.prog.info? 48).map (·.size) = some xs.toArray.size := by
  rw [show xs.toArray.size = 9 from by simp [h]]; kernel_rfl
theorem mv_row : ∃ fs, Tryd.prog.underlying 48 = some (.struct fs) := ⟨_, Tryd.underlying48⟩
section
variable {ops : Array Oper} {rest : List Oper} {o : Oper} {a : Act} {w : World} {Q : Exit → Act → World → Prop}
theorem wpL_boxT (T : TypeId) (hgd : o.guard = none) (x : Operand) (ho : o.op = .box T x) (xs : List Value) (hx : a.eval x = .agg xs.toArray)
    (h : ∀ b W, NewAt w W b T xs → wpList Tryd.prog ops Q rest (a.put o.dst (.pointer (some ⟨b, 0, none⟩))) W) :
    wpList Tryd.prog ops Q (o :: rest) a w := by
  refine wpList_plain hgd fun K hK => ?_
  have := hK _ _ (h w.heap.size (w.alloc (.cells xs.toArray T)) (NewAt.mk' _ _ _))
  unfold Oper.wp execOp
  simp only [ho, Instr.box, Sem.run_bind, Result.andThen_ok, hx]
  simp [newVar, newRow, Value.cells]
  exact this
theorem wpL_getM (hw : Region.wanted o (yielded ops a.tmps) = true) (x : Operand) (ho : o.op = .load 48 x) (b : Nat) (xs : List Value) (hx : a.eval x = .pointer (some ⟨b, 0, none⟩)) (hl : xs.length = 9) (hg : Arr w b 48 xs)
    (h : wpList Tryd.prog ops Q rest (a.put o.dst (.agg xs.toArray)) w) : wpList Tryd.prog ops Q (o :: rest) a w := by
  obtain ⟨fs, hu⟩ := mv_row
  exact wpList_load_row_g hw 48 x ho b hx 48 _ (0, 0) _ hg hu rfl (mv_size xs hl) h
end

def byB (sf : Bool) (s : ByteArray) : Bool := !sf && (s.toList == ([106, 111, 105, 110] : List UInt8))
def entB (r a : ByteArray) : Bool := (anyW [(⟨#[106, 111, 105, 110]⟩ : ByteArray), (⟨#[105, 110, 118, 105, 116, 101]⟩ : ByteArray)] a) || (!(a.toList == ([98, 97, 110] : List UInt8)) && (r.toList == ([112, 117, 98, 108, 105, 99] : List UInt8)))
def remB (a : ByteArray) (ki bn : Bool) : Bool := ((a.toList == ([98, 97, 110] : List UInt8)) && bn) || (inB a && ki)
def ckE (r s a t : ByteArray) : Int := if ruleB r && isB s && isB a && isB t then 0 else 2
set_option maxHeartbeats 8000000 in
theorem byM_any (w : World) (r s a t : ByteArray) (sf iv ki bn ab : Bool) :
    Calls Tryd.prog 66 #[.agg #[.string r, .string s, .string a, .string t, .bool sf, .bool iv, .bool ki, .bool bn, .bool ab]] w fun e w' => e = .returned (.bool (byB sf s)) ∧ Below w.heap.size w w' := by

  cases sf with
  | false =>
    cases q1 : (s.toList == ([106, 111, 105, 110] : List UInt8)) with
    | false =>
      have HF := hidp (show (byB false s) = false from by unfold byB; simp [q1])
      have m1 : (s.toList != ([106, 111, 105, 110] : List UInt8)) = true := by rw [bne, q1]; rfl
      go_enter Tryd.func66, Tryd.ntmps66
      go_wp2_with (first | (refine wpL_boxT 48 rfl _ rfl [.string r, .string s, .string a, .string t, .bool false, .bool iv, .bool ki, .bool bn, .bool ab] rfl ?_; intro b1 w1 n1; have HB := hidp n1.below; have HA := hidp n1.arr; clear n1; obtain ⟨x0, x1, x2, x3, x4, x5, x6, x7, x8⟩ := arr9 HA.out) | fail)
      go_ret
      exact ⟨by rw [HF.out]; rfl, HB.out⟩
    | true =>
      have HF := hidp (show (byB false s) = true from by unfold byB; simp [q1])
      have m1 : (s.toList != ([106, 111, 105, 110] : List UInt8)) = false := by rw [bne, q1]; rfl
      go_enter Tryd.func66, Tryd.ntmps66
      go_wp2_with (first | (refine wpL_boxT 48 rfl _ rfl [.string r, .string s, .string a, .string t, .bool false, .bool iv, .bool ki, .bool bn, .bool ab] rfl ?_; intro b1 w1 n1; have HB := hidp n1.below; have HA := hidp n1.arr; clear n1; obtain ⟨x0, x1, x2, x3, x4, x5, x6, x7, x8⟩ := arr9 HA.out) | fail)
      go_ret
      exact ⟨by rw [HF.out]; rfl, HB.out⟩
  | true =>
    have HF := hidp (show (byB true s) = false from by unfold byB; simp [])
    go_enter Tryd.func66, Tryd.ntmps66
    go_wp2_with (first | (refine wpL_boxT 48 rfl _ rfl [.string r, .string s, .string a, .string t, .bool true, .bool iv, .bool ki, .bool bn, .bool ab] rfl ?_; intro b1 w1 n1; have HB := hidp n1.below; have HA := hidp n1.arr; clear n1; obtain ⟨x0, x1, x2, x3, x4, x5, x6, x7, x8⟩ := arr9 HA.out) | fail)
    go_ret
    exact ⟨by rw [HF.out]; rfl, HB.out⟩
set_option maxHeartbeats 8000000 in
theorem conc_any (w : World) (r s a t : ByteArray) (sf iv ki bn ab : Bool) :
    Calls Tryd.prog 68 #[.agg #[.string r, .string s, .string a, .string t, .bool sf, .bool iv, .bool ki, .bool bn, .bool ab]] w fun e w' => e = .returned (.bool (inB a)) ∧ Below w.heap.size w w' := by
  go_enter Tryd.func68, Tryd.ntmps68
  go_wp2_with (first | (refine wpL_boxT 48 rfl _ rfl [.string r, .string s, .string a, .string t, .bool sf, .bool iv, .bool ki, .bool bn, .bool ab] rfl ?_; intro b1 w1 n1; have HB := hidp n1.below; have HA := hidp n1.arr; clear n1; obtain ⟨x0, x1, x2, x3, x4, x5, x6, x7, x8⟩ := arr9 HA.out) | (go_at_call 67; refine (oneOf_any _ _ [(⟨#[106, 111, 105, 110]⟩ : ByteArray), (⟨#[105, 110, 118, 105, 116, 101]⟩ : ByteArray), (⟨#[107, 110, 111, 99, 107]⟩ : ByteArray)] _ (ws3 _ (⟨#[106, 111, 105, 110]⟩ : ByteArray) (⟨#[105, 110, 118, 105, 116, 101]⟩ : ByteArray) (⟨#[107, 110, 111, 99, 107]⟩ : ByteArray) 9) (by simp)).mono ?_; rintro e w2 ⟨rfl, rfl⟩; replace HB := hidp (HB.out.alloc HB.out.size (.cells #[.string (⟨#[106, 111, 105, 110]⟩ : ByteArray), .string (⟨#[105, 110, 118, 105, 116, 101]⟩ : ByteArray), .string (⟨#[107, 110, 111, 99, 107]⟩ : ByteArray)] 9)); replace HA := hidp (HA.out.alloc (.cells #[.string (⟨#[106, 111, 105, 110]⟩ : ByteArray), .string (⟨#[105, 110, 118, 105, 116, 101]⟩ : ByteArray), .string (⟨#[107, 110, 111, 99, 107]⟩ : ByteArray)] 9)); clear x0 x1 x2 x3 x4 x5 x6 x7 x8; obtain ⟨x0, x1, x2, x3, x4, x5, x6, x7, x8⟩ := arr9 HA.out))
  go_ret
  exact ⟨rfl, HB.out⟩
set_option maxHeartbeats 8000000 in
theorem ent_any (w : World) (r s a t : ByteArray) (sf iv ki bn ab : Bool) :
    Calls Tryd.prog 65 #[.agg #[.string r, .string s, .string a, .string t, .bool sf, .bool iv, .bool ki, .bool bn, .bool ab]] w fun e w' => e = .returned (.bool (entB r a)) ∧ Below w.heap.size w w' := by

  cases q0 : (anyW [(⟨#[106, 111, 105, 110]⟩ : ByteArray), (⟨#[105, 110, 118, 105, 116, 101]⟩ : ByteArray)] a) with
  | false =>
    cases q1 : (a.toList == ([98, 97, 110] : List UInt8)) with
    | false =>
      cases q2 : (r.toList == ([112, 117, 98, 108, 105, 99] : List UInt8)) with
      | false =>
        have HF := hidp (show (entB r a) = false from by unfold entB; simp [q0, q1, q2])
        have m1 : (a.toList != ([98, 97, 110] : List UInt8)) = true := by rw [bne, q1]; rfl
        have m2 : (r.toList != ([112, 117, 98, 108, 105, 99] : List UInt8)) = true := by rw [bne, q2]; rfl
        go_enter Tryd.func65, Tryd.ntmps65
        go_wp2_with (first | (refine wpL_boxT 48 rfl _ rfl [.string r, .string s, .string a, .string t, .bool sf, .bool iv, .bool ki, .bool bn, .bool ab] rfl ?_; intro b1 w1 n1; have HB := hidp n1.below; have HA := hidp n1.arr; clear n1; obtain ⟨x0, x1, x2, x3, x4, x5, x6, x7, x8⟩ := arr9 HA.out) | (go_at_call 67; refine (oneOf_any _ _ [(⟨#[106, 111, 105, 110]⟩ : ByteArray), (⟨#[105, 110, 118, 105, 116, 101]⟩ : ByteArray)] _ (ws2 _ (⟨#[106, 111, 105, 110]⟩ : ByteArray) (⟨#[105, 110, 118, 105, 116, 101]⟩ : ByteArray) 9) (by simp)).mono ?_; rintro e w2 ⟨rfl, rfl⟩; replace HB := hidp (HB.out.alloc HB.out.size (.cells #[.string (⟨#[106, 111, 105, 110]⟩ : ByteArray), .string (⟨#[105, 110, 118, 105, 116, 101]⟩ : ByteArray)] 9)); replace HA := hidp (HA.out.alloc (.cells #[.string (⟨#[106, 111, 105, 110]⟩ : ByteArray), .string (⟨#[105, 110, 118, 105, 116, 101]⟩ : ByteArray)] 9)); clear x0 x1 x2 x3 x4 x5 x6 x7 x8; obtain ⟨x0, x1, x2, x3, x4, x5, x6, x7, x8⟩ := arr9 HA.out))
        go_ret
        exact ⟨by rw [HF.out]; rfl, HB.out⟩
      | true =>
        have HF := hidp (show (entB r a) = true from by unfold entB; simp [q0, q1, q2])
        have m1 : (a.toList != ([98, 97, 110] : List UInt8)) = true := by rw [bne, q1]; rfl
        have m2 : (r.toList != ([112, 117, 98, 108, 105, 99] : List UInt8)) = false := by rw [bne, q2]; rfl
        go_enter Tryd.func65, Tryd.ntmps65
        go_wp2_with (first | (refine wpL_boxT 48 rfl _ rfl [.string r, .string s, .string a, .string t, .bool sf, .bool iv, .bool ki, .bool bn, .bool ab] rfl ?_; intro b1 w1 n1; have HB := hidp n1.below; have HA := hidp n1.arr; clear n1; obtain ⟨x0, x1, x2, x3, x4, x5, x6, x7, x8⟩ := arr9 HA.out) | (go_at_call 67; refine (oneOf_any _ _ [(⟨#[106, 111, 105, 110]⟩ : ByteArray), (⟨#[105, 110, 118, 105, 116, 101]⟩ : ByteArray)] _ (ws2 _ (⟨#[106, 111, 105, 110]⟩ : ByteArray) (⟨#[105, 110, 118, 105, 116, 101]⟩ : ByteArray) 9) (by simp)).mono ?_; rintro e w2 ⟨rfl, rfl⟩; replace HB := hidp (HB.out.alloc HB.out.size (.cells #[.string (⟨#[106, 111, 105, 110]⟩ : ByteArray), .string (⟨#[105, 110, 118, 105, 116, 101]⟩ : ByteArray)] 9)); replace HA := hidp (HA.out.alloc (.cells #[.string (⟨#[106, 111, 105, 110]⟩ : ByteArray), .string (⟨#[105, 110, 118, 105, 116, 101]⟩ : ByteArray)] 9)); clear x0 x1 x2 x3 x4 x5 x6 x7 x8; obtain ⟨x0, x1, x2, x3, x4, x5, x6, x7, x8⟩ := arr9 HA.out))
        go_ret
        exact ⟨by rw [HF.out]; rfl, HB.out⟩
    | true =>
      have HF := hidp (show (entB r a) = false from by unfold entB; simp [q0, q1])
      have m1 : (a.toList != ([98, 97, 110] : List UInt8)) = false := by rw [bne, q1]; rfl
      go_enter Tryd.func65, Tryd.ntmps65
      go_wp2_with (first | (refine wpL_boxT 48 rfl _ rfl [.string r, .string s, .string a, .string t, .bool sf, .bool iv, .bool ki, .bool bn, .bool ab] rfl ?_; intro b1 w1 n1; have HB := hidp n1.below; have HA := hidp n1.arr; clear n1; obtain ⟨x0, x1, x2, x3, x4, x5, x6, x7, x8⟩ := arr9 HA.out) | (go_at_call 67; refine (oneOf_any _ _ [(⟨#[106, 111, 105, 110]⟩ : ByteArray), (⟨#[105, 110, 118, 105, 116, 101]⟩ : ByteArray)] _ (ws2 _ (⟨#[106, 111, 105, 110]⟩ : ByteArray) (⟨#[105, 110, 118, 105, 116, 101]⟩ : ByteArray) 9) (by simp)).mono ?_; rintro e w2 ⟨rfl, rfl⟩; replace HB := hidp (HB.out.alloc HB.out.size (.cells #[.string (⟨#[106, 111, 105, 110]⟩ : ByteArray), .string (⟨#[105, 110, 118, 105, 116, 101]⟩ : ByteArray)] 9)); replace HA := hidp (HA.out.alloc (.cells #[.string (⟨#[106, 111, 105, 110]⟩ : ByteArray), .string (⟨#[105, 110, 118, 105, 116, 101]⟩ : ByteArray)] 9)); clear x0 x1 x2 x3 x4 x5 x6 x7 x8; obtain ⟨x0, x1, x2, x3, x4, x5, x6, x7, x8⟩ := arr9 HA.out))
      go_ret
      exact ⟨by rw [HF.out]; rfl, HB.out⟩
  | true =>
    have HF := hidp (show (entB r a) = true from by unfold entB; simp [q0])
    go_enter Tryd.func65, Tryd.ntmps65
    go_wp2_with (first | (refine wpL_boxT 48 rfl _ rfl [.string r, .string s, .string a, .string t, .bool sf, .bool iv, .bool ki, .bool bn, .bool ab] rfl ?_; intro b1 w1 n1; have HB := hidp n1.below; have HA := hidp n1.arr; clear n1; obtain ⟨x0, x1, x2, x3, x4, x5, x6, x7, x8⟩ := arr9 HA.out) | (go_at_call 67; refine (oneOf_any _ _ [(⟨#[106, 111, 105, 110]⟩ : ByteArray), (⟨#[105, 110, 118, 105, 116, 101]⟩ : ByteArray)] _ (ws2 _ (⟨#[106, 111, 105, 110]⟩ : ByteArray) (⟨#[105, 110, 118, 105, 116, 101]⟩ : ByteArray) 9) (by simp)).mono ?_; rintro e w2 ⟨rfl, rfl⟩; replace HB := hidp (HB.out.alloc HB.out.size (.cells #[.string (⟨#[106, 111, 105, 110]⟩ : ByteArray), .string (⟨#[105, 110, 118, 105, 116, 101]⟩ : ByteArray)] 9)); replace HA := hidp (HA.out.alloc (.cells #[.string (⟨#[106, 111, 105, 110]⟩ : ByteArray), .string (⟨#[105, 110, 118, 105, 116, 101]⟩ : ByteArray)] 9)); clear x0 x1 x2 x3 x4 x5 x6 x7 x8; obtain ⟨x0, x1, x2, x3, x4, x5, x6, x7, x8⟩ := arr9 HA.out))
    go_ret
    exact ⟨by rw [HF.out]; rfl, HB.out⟩
set_option maxHeartbeats 8000000 in
theorem rem_any (w : World) (r s a t : ByteArray) (sf iv ki bn ab : Bool) :
    Calls Tryd.prog 69 #[.agg #[.string r, .string s, .string a, .string t, .bool sf, .bool iv, .bool ki, .bool bn, .bool ab]] w fun e w' => e = .returned (.bool (remB a ki bn)) ∧ Below w.heap.size w w' := by

  cases q0 : (a.toList == ([98, 97, 110] : List UInt8)) with
  | false =>
    cases q1 : (inB a) with
    | false =>
      have HF := hidp (show (remB a ki bn) = false from by unfold remB; simp [q0, q1])
      have m0 : (a.toList != ([98, 97, 110] : List UInt8)) = true := by rw [bne, q0]; rfl
      go_enter Tryd.func69, Tryd.ntmps69
      go_wp2_with (first | (refine wpL_boxT 48 rfl _ rfl [.string r, .string s, .string a, .string t, .bool sf, .bool iv, .bool ki, .bool bn, .bool ab] rfl ?_; intro b1 w1 n1; have HB := hidp n1.below; have HA := hidp n1.arr; clear n1; obtain ⟨x0, x1, x2, x3, x4, x5, x6, x7, x8⟩ := arr9 HA.out) | (first | (refine wpL_getM rfl (.tmp 1) rfl b1 [.string r, .string s, .string a, .string t, .bool sf, .bool iv, .bool ki, .bool bn, .bool ab] rfl rfl HA.out ?_) | (go_at_call 68; refine (conc_any _ r s a t _ _ _ _ _).mono ?_; rintro e w1 ⟨rfl, hb⟩; clear x0 x1 x2 x3 x4 x5 x6 x7 x8; replace HB := hidp (HB.out.trans (hb.mono HB.out.size)); replace HA := hidp (HA.out.below hb HA.out.lt); clear hb; obtain ⟨x0, x1, x2, x3, x4, x5, x6, x7, x8⟩ := arr9 HA.out)))
      go_ret
      exact ⟨by rw [HF.out]; rfl, HB.out⟩
    | true =>
      cases ki with
      | false =>
        have HF := hidp (show (remB a false bn) = false from by unfold remB; simp [q0, q1])
        have m0 : (a.toList != ([98, 97, 110] : List UInt8)) = true := by rw [bne, q0]; rfl
        go_enter Tryd.func69, Tryd.ntmps69
        go_wp2_with (first | (refine wpL_boxT 48 rfl _ rfl [.string r, .string s, .string a, .string t, .bool sf, .bool iv, .bool false, .bool bn, .bool ab] rfl ?_; intro b1 w1 n1; have HB := hidp n1.below; have HA := hidp n1.arr; clear n1; obtain ⟨x0, x1, x2, x3, x4, x5, x6, x7, x8⟩ := arr9 HA.out) | (first | (refine wpL_getM rfl (.tmp 1) rfl b1 [.string r, .string s, .string a, .string t, .bool sf, .bool iv, .bool false, .bool bn, .bool ab] rfl rfl HA.out ?_) | (go_at_call 68; refine (conc_any _ r s a t _ _ _ _ _).mono ?_; rintro e w1 ⟨rfl, hb⟩; clear x0 x1 x2 x3 x4 x5 x6 x7 x8; replace HB := hidp (HB.out.trans (hb.mono HB.out.size)); replace HA := hidp (HA.out.below hb HA.out.lt); clear hb; obtain ⟨x0, x1, x2, x3, x4, x5, x6, x7, x8⟩ := arr9 HA.out)))
        go_ret
        exact ⟨by rw [HF.out]; rfl, HB.out⟩
      | true =>
        have HF := hidp (show (remB a true bn) = true from by unfold remB; simp [q0, q1])
        have m0 : (a.toList != ([98, 97, 110] : List UInt8)) = true := by rw [bne, q0]; rfl
        go_enter Tryd.func69, Tryd.ntmps69
        go_wp2_with (first | (refine wpL_boxT 48 rfl _ rfl [.string r, .string s, .string a, .string t, .bool sf, .bool iv, .bool true, .bool bn, .bool ab] rfl ?_; intro b1 w1 n1; have HB := hidp n1.below; have HA := hidp n1.arr; clear n1; obtain ⟨x0, x1, x2, x3, x4, x5, x6, x7, x8⟩ := arr9 HA.out) | (first | (refine wpL_getM rfl (.tmp 1) rfl b1 [.string r, .string s, .string a, .string t, .bool sf, .bool iv, .bool true, .bool bn, .bool ab] rfl rfl HA.out ?_) | (go_at_call 68; refine (conc_any _ r s a t _ _ _ _ _).mono ?_; rintro e w1 ⟨rfl, hb⟩; clear x0 x1 x2 x3 x4 x5 x6 x7 x8; replace HB := hidp (HB.out.trans (hb.mono HB.out.size)); replace HA := hidp (HA.out.below hb HA.out.lt); clear hb; obtain ⟨x0, x1, x2, x3, x4, x5, x6, x7, x8⟩ := arr9 HA.out)))
        go_ret
        exact ⟨by rw [HF.out]; rfl, HB.out⟩
  | true =>
    cases bn with
    | false =>
      cases q2 : (inB a) with
      | false =>
        have HF := hidp (show (remB a ki false) = false from by unfold remB; simp [q0, q2])
        have m0 : (a.toList != ([98, 97, 110] : List UInt8)) = false := by rw [bne, q0]; rfl
        go_enter Tryd.func69, Tryd.ntmps69
        go_wp2_with (first | (refine wpL_boxT 48 rfl _ rfl [.string r, .string s, .string a, .string t, .bool sf, .bool iv, .bool ki, .bool false, .bool ab] rfl ?_; intro b1 w1 n1; have HB := hidp n1.below; have HA := hidp n1.arr; clear n1; obtain ⟨x0, x1, x2, x3, x4, x5, x6, x7, x8⟩ := arr9 HA.out) | (first | (refine wpL_getM rfl (.tmp 1) rfl b1 [.string r, .string s, .string a, .string t, .bool sf, .bool iv, .bool ki, .bool false, .bool ab] rfl rfl HA.out ?_) | (go_at_call 68; refine (conc_any _ r s a t _ _ _ _ _).mono ?_; rintro e w1 ⟨rfl, hb⟩; clear x0 x1 x2 x3 x4 x5 x6 x7 x8; replace HB := hidp (HB.out.trans (hb.mono HB.out.size)); replace HA := hidp (HA.out.below hb HA.out.lt); clear hb; obtain ⟨x0, x1, x2, x3, x4, x5, x6, x7, x8⟩ := arr9 HA.out)))
        go_ret
        exact ⟨by rw [HF.out]; rfl, HB.out⟩
      | true =>
        cases ki with
        | false =>
          have HF := hidp (show (remB a false false) = false from by unfold remB; simp [q0, q2])
          have m0 : (a.toList != ([98, 97, 110] : List UInt8)) = false := by rw [bne, q0]; rfl
          go_enter Tryd.func69, Tryd.ntmps69
          go_wp2_with (first | (refine wpL_boxT 48 rfl _ rfl [.string r, .string s, .string a, .string t, .bool sf, .bool iv, .bool false, .bool false, .bool ab] rfl ?_; intro b1 w1 n1; have HB := hidp n1.below; have HA := hidp n1.arr; clear n1; obtain ⟨x0, x1, x2, x3, x4, x5, x6, x7, x8⟩ := arr9 HA.out) | (first | (refine wpL_getM rfl (.tmp 1) rfl b1 [.string r, .string s, .string a, .string t, .bool sf, .bool iv, .bool false, .bool false, .bool ab] rfl rfl HA.out ?_) | (go_at_call 68; refine (conc_any _ r s a t _ _ _ _ _).mono ?_; rintro e w1 ⟨rfl, hb⟩; clear x0 x1 x2 x3 x4 x5 x6 x7 x8; replace HB := hidp (HB.out.trans (hb.mono HB.out.size)); replace HA := hidp (HA.out.below hb HA.out.lt); clear hb; obtain ⟨x0, x1, x2, x3, x4, x5, x6, x7, x8⟩ := arr9 HA.out)))
          go_ret
          exact ⟨by rw [HF.out]; rfl, HB.out⟩
        | true =>
          have HF := hidp (show (remB a true false) = true from by unfold remB; simp [q0, q2])
          have m0 : (a.toList != ([98, 97, 110] : List UInt8)) = false := by rw [bne, q0]; rfl
          go_enter Tryd.func69, Tryd.ntmps69
          go_wp2_with (first | (refine wpL_boxT 48 rfl _ rfl [.string r, .string s, .string a, .string t, .bool sf, .bool iv, .bool true, .bool false, .bool ab] rfl ?_; intro b1 w1 n1; have HB := hidp n1.below; have HA := hidp n1.arr; clear n1; obtain ⟨x0, x1, x2, x3, x4, x5, x6, x7, x8⟩ := arr9 HA.out) | (first | (refine wpL_getM rfl (.tmp 1) rfl b1 [.string r, .string s, .string a, .string t, .bool sf, .bool iv, .bool true, .bool false, .bool ab] rfl rfl HA.out ?_) | (go_at_call 68; refine (conc_any _ r s a t _ _ _ _ _).mono ?_; rintro e w1 ⟨rfl, hb⟩; clear x0 x1 x2 x3 x4 x5 x6 x7 x8; replace HB := hidp (HB.out.trans (hb.mono HB.out.size)); replace HA := hidp (HA.out.below hb HA.out.lt); clear hb; obtain ⟨x0, x1, x2, x3, x4, x5, x6, x7, x8⟩ := arr9 HA.out)))
          go_ret
          exact ⟨by rw [HF.out]; rfl, HB.out⟩
    | true =>
      have HF := hidp (show (remB a ki true) = true from by unfold remB; simp [q0])
      have m0 : (a.toList != ([98, 97, 110] : List UInt8)) = false := by rw [bne, q0]; rfl
      go_enter Tryd.func69, Tryd.ntmps69
      go_wp2_with (first | (refine wpL_boxT 48 rfl _ rfl [.string r, .string s, .string a, .string t, .bool sf, .bool iv, .bool ki, .bool true, .bool ab] rfl ?_; intro b1 w1 n1; have HB := hidp n1.below; have HA := hidp n1.arr; clear n1; obtain ⟨x0, x1, x2, x3, x4, x5, x6, x7, x8⟩ := arr9 HA.out) | (first | (refine wpL_getM rfl (.tmp 1) rfl b1 [.string r, .string s, .string a, .string t, .bool sf, .bool iv, .bool ki, .bool true, .bool ab] rfl rfl HA.out ?_) | (go_at_call 68; refine (conc_any _ r s a t _ _ _ _ _).mono ?_; rintro e w1 ⟨rfl, hb⟩; clear x0 x1 x2 x3 x4 x5 x6 x7 x8; replace HB := hidp (HB.out.trans (hb.mono HB.out.size)); replace HA := hidp (HA.out.below hb HA.out.lt); clear hb; obtain ⟨x0, x1, x2, x3, x4, x5, x6, x7, x8⟩ := arr9 HA.out)))
      go_ret
      exact ⟨by rw [HF.out]; rfl, HB.out⟩
set_option maxHeartbeats 8000000 in
theorem check_any (w : World) (r s a t : ByteArray) (sf iv ki bn ab : Bool) :
    Calls Tryd.prog 43 #[.agg #[.string r, .string s, .string a, .string t, .bool sf, .bool iv, .bool ki, .bool bn, .bool ab]] w fun e w' => e = .returned (.int .i64 (ckE r s a t)) ∧ Below w.heap.size w w' := by

  cases q0 : (ruleB r) with
  | false =>
    have HF := hidp (show (ckE r s a t) = 2 from by unfold ckE; simp [q0])
    go_enter Tryd.func43, Tryd.ntmps43
    go_wp2_with (first | (refine wpL_boxT 48 rfl _ rfl [.string r, .string s, .string a, .string t, .bool sf, .bool iv, .bool ki, .bool bn, .bool ab] rfl ?_; intro b1 w1 n1; have HB := hidp n1.below; have HA := hidp n1.arr; clear n1; obtain ⟨x0, x1, x2, x3, x4, x5, x6, x7, x8⟩ := arr9 HA.out) | (first | (go_at_call 63; refine (rule_any _ _).mono ?_; rintro e w1 ⟨rfl, hb⟩; clear x0 x1 x2 x3 x4 x5 x6 x7 x8; replace HB := hidp (HB.out.trans (hb.mono HB.out.size)); replace HA := hidp (HA.out.below hb HA.out.lt); clear hb; obtain ⟨x0, x1, x2, x3, x4, x5, x6, x7, x8⟩ := arr9 HA.out) | (go_at_call 64; refine (is_any _ _).mono ?_; rintro e w1 ⟨rfl, hb⟩; clear x0 x1 x2 x3 x4 x5 x6 x7 x8; replace HB := hidp (HB.out.trans (hb.mono HB.out.size)); replace HA := hidp (HA.out.below hb HA.out.lt); clear hb; obtain ⟨x0, x1, x2, x3, x4, x5, x6, x7, x8⟩ := arr9 HA.out)))
    go_ret
    exact ⟨by rw [HF.out]; rfl, HB.out⟩
  | true =>
    cases q1 : (isB s) with
    | false =>
      have HF := hidp (show (ckE r s a t) = 2 from by unfold ckE; simp [q0, q1])
      go_enter Tryd.func43, Tryd.ntmps43
      go_wp2_with (first | (refine wpL_boxT 48 rfl _ rfl [.string r, .string s, .string a, .string t, .bool sf, .bool iv, .bool ki, .bool bn, .bool ab] rfl ?_; intro b1 w1 n1; have HB := hidp n1.below; have HA := hidp n1.arr; clear n1; obtain ⟨x0, x1, x2, x3, x4, x5, x6, x7, x8⟩ := arr9 HA.out) | (first | (go_at_call 63; refine (rule_any _ _).mono ?_; rintro e w1 ⟨rfl, hb⟩; clear x0 x1 x2 x3 x4 x5 x6 x7 x8; replace HB := hidp (HB.out.trans (hb.mono HB.out.size)); replace HA := hidp (HA.out.below hb HA.out.lt); clear hb; obtain ⟨x0, x1, x2, x3, x4, x5, x6, x7, x8⟩ := arr9 HA.out) | (go_at_call 64; refine (is_any _ _).mono ?_; rintro e w1 ⟨rfl, hb⟩; clear x0 x1 x2 x3 x4 x5 x6 x7 x8; replace HB := hidp (HB.out.trans (hb.mono HB.out.size)); replace HA := hidp (HA.out.below hb HA.out.lt); clear hb; obtain ⟨x0, x1, x2, x3, x4, x5, x6, x7, x8⟩ := arr9 HA.out)))
      go_ret
      exact ⟨by rw [HF.out]; rfl, HB.out⟩
    | true =>
      cases q2 : (isB a) with
      | false =>
        have HF := hidp (show (ckE r s a t) = 2 from by unfold ckE; simp [q0, q1, q2])
        go_enter Tryd.func43, Tryd.ntmps43
        go_wp2_with (first | (refine wpL_boxT 48 rfl _ rfl [.string r, .string s, .string a, .string t, .bool sf, .bool iv, .bool ki, .bool bn, .bool ab] rfl ?_; intro b1 w1 n1; have HB := hidp n1.below; have HA := hidp n1.arr; clear n1; obtain ⟨x0, x1, x2, x3, x4, x5, x6, x7, x8⟩ := arr9 HA.out) | (first | (go_at_call 63; refine (rule_any _ _).mono ?_; rintro e w1 ⟨rfl, hb⟩; clear x0 x1 x2 x3 x4 x5 x6 x7 x8; replace HB := hidp (HB.out.trans (hb.mono HB.out.size)); replace HA := hidp (HA.out.below hb HA.out.lt); clear hb; obtain ⟨x0, x1, x2, x3, x4, x5, x6, x7, x8⟩ := arr9 HA.out) | (go_at_call 64; refine (is_any _ _).mono ?_; rintro e w1 ⟨rfl, hb⟩; clear x0 x1 x2 x3 x4 x5 x6 x7 x8; replace HB := hidp (HB.out.trans (hb.mono HB.out.size)); replace HA := hidp (HA.out.below hb HA.out.lt); clear hb; obtain ⟨x0, x1, x2, x3, x4, x5, x6, x7, x8⟩ := arr9 HA.out)))
        go_ret
        exact ⟨by rw [HF.out]; rfl, HB.out⟩
      | true =>
        cases q3 : (isB t) with
        | false =>
          have HF := hidp (show (ckE r s a t) = 2 from by unfold ckE; simp [q0, q1, q2, q3])
          go_enter Tryd.func43, Tryd.ntmps43
          go_wp2_with (first | (refine wpL_boxT 48 rfl _ rfl [.string r, .string s, .string a, .string t, .bool sf, .bool iv, .bool ki, .bool bn, .bool ab] rfl ?_; intro b1 w1 n1; have HB := hidp n1.below; have HA := hidp n1.arr; clear n1; obtain ⟨x0, x1, x2, x3, x4, x5, x6, x7, x8⟩ := arr9 HA.out) | (first | (go_at_call 63; refine (rule_any _ _).mono ?_; rintro e w1 ⟨rfl, hb⟩; clear x0 x1 x2 x3 x4 x5 x6 x7 x8; replace HB := hidp (HB.out.trans (hb.mono HB.out.size)); replace HA := hidp (HA.out.below hb HA.out.lt); clear hb; obtain ⟨x0, x1, x2, x3, x4, x5, x6, x7, x8⟩ := arr9 HA.out) | (go_at_call 64; refine (is_any _ _).mono ?_; rintro e w1 ⟨rfl, hb⟩; clear x0 x1 x2 x3 x4 x5 x6 x7 x8; replace HB := hidp (HB.out.trans (hb.mono HB.out.size)); replace HA := hidp (HA.out.below hb HA.out.lt); clear hb; obtain ⟨x0, x1, x2, x3, x4, x5, x6, x7, x8⟩ := arr9 HA.out)))
          go_ret
          exact ⟨by rw [HF.out]; rfl, HB.out⟩
        | true =>
          have HF := hidp (show (ckE r s a t) = 0 from by unfold ckE; simp [q0, q1, q2, q3])
          go_enter Tryd.func43, Tryd.ntmps43
          go_wp2_with (first | (refine wpL_boxT 48 rfl _ rfl [.string r, .string s, .string a, .string t, .bool sf, .bool iv, .bool ki, .bool bn, .bool ab] rfl ?_; intro b1 w1 n1; have HB := hidp n1.below; have HA := hidp n1.arr; clear n1; obtain ⟨x0, x1, x2, x3, x4, x5, x6, x7, x8⟩ := arr9 HA.out) | (first | (go_at_call 63; refine (rule_any _ _).mono ?_; rintro e w1 ⟨rfl, hb⟩; clear x0 x1 x2 x3 x4 x5 x6 x7 x8; replace HB := hidp (HB.out.trans (hb.mono HB.out.size)); replace HA := hidp (HA.out.below hb HA.out.lt); clear hb; obtain ⟨x0, x1, x2, x3, x4, x5, x6, x7, x8⟩ := arr9 HA.out) | (go_at_call 64; refine (is_any _ _).mono ?_; rintro e w1 ⟨rfl, hb⟩; clear x0 x1 x2 x3 x4 x5 x6 x7 x8; replace HB := hidp (HB.out.trans (hb.mono HB.out.size)); replace HA := hidp (HA.out.below hb HA.out.lt); clear hb; obtain ⟨x0, x1, x2, x3, x4, x5, x6, x7, x8⟩ := arr9 HA.out)))
          go_ret
          exact ⟨by rw [HF.out]; rfl, HB.out⟩
end Go.Proofs.YtlgmgllilmlffaaDoor
