/-
  Joined: MbA MbB MbC.
-/
import Derived.Test.YtkcgmimcopoknaaGreatDoorOctAll
import Derived.Test.YtkcgmimcopoknaaGreatDoorBaAll
import Derived.Test.YtkcgmimcopoknaaGreatDoorProg
import Derived.Laws.Rows
import Derived.Lib.SlicesS
namespace Go.Proofs.YtkcgmimcopoknaaGreatDoor
set_option maxRecDepth 100000
set_option linter.unusedVariables false
set_option linter.unusedSimpArgs false
open Go.RowKit


/-- A word is one of several. -/
def anyW (ws : List ByteArray) (x : ByteArray) : Bool := ws.any (fun y => x.toList == y.toList)
theorem any_no {ws : List ByteArray} {x : ByteArray} (h : ∀ j (hj : j < ws.length), x ≠ ws[j]) : anyW ws x = false := by
  unfold anyW
  rw [List.any_eq_false]
  intro y hy
  obtain ⟨j, hj, rfl⟩ := List.mem_iff_getElem.1 hy
  rw [(Go.Lib.bytes_beq_false_iff _ _).2 (h j hj)]; exact Bool.false_ne_true
theorem any_yes {ws : List ByteArray} {x : ByteArray} {j : Nat} (hj : j < ws.length) (h : x = ws[j]) : anyW ws x = true := by
  unfold anyW
  rw [List.any_eq_true]
  exact ⟨ws[j], List.getElem_mem hj, (Go.Lib.bytes_beq_iff _ _).2 h⟩
theorem toList_lit (l : List UInt8) : (⟨l.toArray⟩ : ByteArray).toList = l := by rw [ByteArray.toList_eq]
/-- Words in memory. -/
def WsAt (w : World) (v : Value) (ss : List ByteArray) : Prop :=
  ∃ b cap, v = .slice (some ⟨b, 0, none⟩) ss.length cap ∧ ∀ k (h : k < ss.length), w.cell? ⟨b, k, none⟩ = some (.string ss[k])
theorem ws2 (w : World) (a b : ByteArray) (t : Nat) : WsAt (w.alloc (.cells #[.string a, .string b] t)) (.slice (some ⟨w.heap.size, 0, none⟩) 2 2) [a, b] := by
  refine ⟨_, _, rfl, fun k hk => ?_⟩
  have h := Arr.new w t [.string a, .string b]
  match k, hk with
  | 0, _ => exact h.cell 0 (by simp)
  | 1, _ => exact h.cell 1 (by simp)
theorem ws3 (w : World) (a b c : ByteArray) (t : Nat) : WsAt (w.alloc (.cells #[.string a, .string b, .string c] t)) (.slice (some ⟨w.heap.size, 0, none⟩) 3 3) [a, b, c] := by
  refine ⟨_, _, rfl, fun k hk => ?_⟩
  have h := Arr.new w t [.string a, .string b, .string c]
  match k, hk with
  | 0, _ => exact h.cell 0 (by simp)
  | 1, _ => exact h.cell 1 (by simp)
  | 2, _ => exact h.cell 2 (by simp)
theorem ws5 (w : World) (a b c d f : ByteArray) (t : Nat) : WsAt (w.alloc (.cells #[.string a, .string b, .string c, .string d, .string f] t)) (.slice (some ⟨w.heap.size, 0, none⟩) 5 5) [a, b, c, d, f] := by
  refine ⟨_, _, rfl, fun k hk => ?_⟩
  have h := Arr.new w t [.string a, .string b, .string c, .string d, .string f]
  match k, hk with
  | 0, _ => exact h.cell 0 (by simp)
  | 1, _ => exact h.cell 1 (by simp)
  | 2, _ => exact h.cell 2 (by simp)
  | 3, _ => exact h.cell 3 (by simp)
  | 4, _ => exact h.cell 4 (by simp)
set_option maxHeartbeats 4000000 in
theorem index_any (w : World) (v : Value) (ws : List ByteArray) (x : ByteArray) (hat : WsAt w v ws) (hn : ws.length ≤ 100) :
    Calls Tryz.prog 144 #[v, .string x] w fun e w' => ∃ i : Int, e = .returned (.int .i64 i) ∧ ((∃ k : Nat, i = k ∧ anyW ws x = true) ∨ (i = -1 ∧ anyW ws x = false)) ∧ w' = w := by
  obtain ⟨b, cap, rfl, hc⟩ := hat
  obtain ⟨n, hnn⟩ : ∃ n, ws.length = n := ⟨_, rfl⟩
  have HC := hidp hc; clear hc
  have HN := hidp hnn
  rw [hnn]
  rw [hnn] at hn
  clear hnn
  go_enter Tryz.func144, Tryz.ntmps144
  go_wp2
  go_loop [5, 8] (fun _ i => ∃ k : Nat, k ≤ n ∧ i = .int .i64 k ∧ ∀ j (hj : j < ws.length), j < k → x ≠ ws[j]) (fun _ i => n - (intOf i).toNat)
  case atStart => exact ⟨0, Nat.zero_le _, rfl, fun j _ hj => absurd hj (Nat.not_lt_zero _)⟩
  case round =>
    obtain ⟨k, hk, rfl, hne⟩ := hrel
    have HNE := hidp hne; clear hne
    by_cases hl : k < n
    · have hl2 : (k : Int) < (n : Int) := by omega
      have hl3 : (0 : Int) ≤ (k : Int) := by omega
      have hkw : k < ws.length := by rw [HN.out]; exact hl
      have hcell := HC.out k hkw
      have hw : IntKind.i64.wrap ((k : Int) + 1) = (((k + 1 : Nat)) : Int) := by rw [IntWalk.i64_in _ ⟨by omega, by omega⟩]; simp
      obtain ⟨y, hy⟩ : ∃ y, ws[k] = y := ⟨_, rfl⟩
      rw [hy] at hcell
      have HY := hidp (show ∀ h : k < ws.length, ws[k]'h = y from fun _ => hy); clear hy
      have HK := hidp hkw; clear hkw
      cases hq : (x.toList == y.toList) with
      | true =>
        have HQ := hidp (any_yes HK.out (((Go.Lib.bytes_beq_iff _ _).1 hq).trans (HY.out _).symm))
        go_wp2
        go_ret
        exact ⟨_, rfl, .inl ⟨⟨k, rfl⟩, HQ.out⟩, rfl⟩
      | false =>
        have HQ := hidp (show x ≠ y from (Go.Lib.bytes_beq_false_iff _ _).1 hq)
        have HW := hidp hw
        clear hw
        go_wp2
        refine ⟨⟨k + 1, by omega, by simp, fun j hj hjk => ?_⟩, by simp [intOf]; omega⟩
        · by_cases e : j = k
          · subst e; rw [HY.out]; exact HQ.out
          · exact HNE.out j hj (by omega)
    · have hl2 : ¬ (k : Int) < (n : Int) := by omega
      have HQ := hidp (any_no (ws := ws) (x := x) fun j hj => HNE.out j hj (by have := HN.out; omega))
      go_wp2
      go_ret
      exact ⟨_, rfl, .inr ⟨rfl, HQ.out⟩, rfl⟩

set_option maxHeartbeats 4000000 in
theorem contains_any (w : World) (v : Value) (ws : List ByteArray) (x : ByteArray) (hat : WsAt w v ws) (hn : ws.length ≤ 100) :
    Calls Tryz.prog 114 #[v, .string x] w fun e w' => e = .returned (.bool (anyW ws x)) ∧ w' = w := by
  have c := hidp (index_any w v ws x hat hn)
  clear hat
  go_enter Tryz.func114, Tryz.ntmps114
  go_wp2_with fail
  refine c.out.mono ?_
  rintro e w' ⟨i, rfl, hi, rfl⟩
  rcases hi with ⟨k, rfl, hA⟩ | ⟨rfl, hA⟩
  · have h0 : (0 : Int) ≤ (k : Int) := by omega
    have h1 : ¬ (k : Int) < 0 := by omega
    have HA := hidp hA; clear hA
    go_wp2_with fail
    go_ret
    exact ⟨by rw [HA.out]; rfl, rfl⟩
  · have HA := hidp hA; clear hA
    go_wp2_with fail
    go_ret
    exact ⟨by rw [HA.out]; rfl, rfl⟩
set_option maxHeartbeats 4000000 in
theorem oneOf_any (w : World) (v : Value) (ws : List ByteArray) (x : ByteArray) (hat : WsAt w v ws) (hn : ws.length ≤ 100) :
    Calls Tryz.prog 90 #[.string x, v] w fun e w' => e = .returned (.bool (anyW ws x)) ∧ w' = w := by
  have c := hidp (contains_any w v ws x hat hn)
  clear hat
  go_enter Tryz.func90, Tryz.ntmps90
  go_wp2_with fail
  refine c.out.mono ?_
  rintro e w' ⟨rfl, rfl⟩
  go_wp2_with fail
  go_ret
  exact ⟨rfl, rfl⟩

def isB (x : ByteArray) : Bool := anyW [(⟨#[106, 111, 105, 110]⟩ : ByteArray), (⟨#[105, 110, 118, 105, 116, 101]⟩ : ByteArray), (⟨#[108, 101, 97, 118, 101]⟩ : ByteArray), (⟨#[98, 97, 110]⟩ : ByteArray), (⟨#[107, 110, 111, 99, 107]⟩ : ByteArray)] x
set_option maxHeartbeats 4000000 in
theorem is_any (w : World) (x : ByteArray) :
    Calls Tryz.prog 63 #[.string x] w fun e w' => e = .returned (.bool (isB x)) ∧ Below w.heap.size w w' := by
  have c := hidp (fun W v (h : WsAt W v [(⟨#[106, 111, 105, 110]⟩ : ByteArray), (⟨#[105, 110, 118, 105, 116, 101]⟩ : ByteArray), (⟨#[108, 101, 97, 118, 101]⟩ : ByteArray), (⟨#[98, 97, 110]⟩ : ByteArray), (⟨#[107, 110, 111, 99, 107]⟩ : ByteArray)]) => oneOf_any W v [(⟨#[106, 111, 105, 110]⟩ : ByteArray), (⟨#[105, 110, 118, 105, 116, 101]⟩ : ByteArray), (⟨#[108, 101, 97, 118, 101]⟩ : ByteArray), (⟨#[98, 97, 110]⟩ : ByteArray), (⟨#[107, 110, 111, 99, 107]⟩ : ByteArray)] x h (by simp))
  have HX := hidp ((Below.refl w.heap.size w).alloc (Nat.le_refl _) (.cells #[.string (⟨#[106, 111, 105, 110]⟩ : ByteArray), .string (⟨#[105, 110, 118, 105, 116, 101]⟩ : ByteArray), .string (⟨#[108, 101, 97, 118, 101]⟩ : ByteArray), .string (⟨#[98, 97, 110]⟩ : ByteArray), .string (⟨#[107, 110, 111, 99, 107]⟩ : ByteArray)] 9))
  have HV := hidp (ws5 w (⟨#[106, 111, 105, 110]⟩ : ByteArray) (⟨#[105, 110, 118, 105, 116, 101]⟩ : ByteArray) (⟨#[108, 101, 97, 118, 101]⟩ : ByteArray) (⟨#[98, 97, 110]⟩ : ByteArray) (⟨#[107, 110, 111, 99, 107]⟩ : ByteArray) 9)
  go_enter Tryz.func63, Tryz.ntmps63
  go_wp2_with fail
  refine (c.out _ _ HV.out).mono ?_
  rintro e w' ⟨rfl, rfl⟩
  go_wp2_with fail
  go_ret
  exact ⟨rfl, HX.out⟩

def ruleB (x : ByteArray) : Bool := anyW [(⟨#[112, 117, 98, 108, 105, 99]⟩ : ByteArray), (⟨#[105, 110, 118, 105, 116, 101]⟩ : ByteArray), (⟨#[107, 110, 111, 99, 107]⟩ : ByteArray)] x
set_option maxHeartbeats 4000000 in
theorem rule_any (w : World) (x : ByteArray) :
    Calls Tryz.prog 69 #[.string x] w fun e w' => e = .returned (.bool (ruleB x)) ∧ Below w.heap.size w w' := by
  have c := hidp (fun W v (h : WsAt W v [(⟨#[112, 117, 98, 108, 105, 99]⟩ : ByteArray), (⟨#[105, 110, 118, 105, 116, 101]⟩ : ByteArray), (⟨#[107, 110, 111, 99, 107]⟩ : ByteArray)]) => oneOf_any W v [(⟨#[112, 117, 98, 108, 105, 99]⟩ : ByteArray), (⟨#[105, 110, 118, 105, 116, 101]⟩ : ByteArray), (⟨#[107, 110, 111, 99, 107]⟩ : ByteArray)] x h (by simp))
  have HX := hidp ((Below.refl w.heap.size w).alloc (Nat.le_refl _) (.cells #[.string (⟨#[112, 117, 98, 108, 105, 99]⟩ : ByteArray), .string (⟨#[105, 110, 118, 105, 116, 101]⟩ : ByteArray), .string (⟨#[107, 110, 111, 99, 107]⟩ : ByteArray)] 9))
  have HV := hidp (ws3 w (⟨#[112, 117, 98, 108, 105, 99]⟩ : ByteArray) (⟨#[105, 110, 118, 105, 116, 101]⟩ : ByteArray) (⟨#[107, 110, 111, 99, 107]⟩ : ByteArray) 9)
  go_enter Tryz.func69, Tryz.ntmps69
  go_wp2_with fail
  refine (c.out _ _ HV.out).mono ?_
  rintro e w' ⟨rfl, rfl⟩
  go_wp2_with fail
  go_ret
  exact ⟨rfl, HX.out⟩

def inB (x : ByteArray) : Bool := anyW [(⟨#[106, 111, 105, 110]⟩ : ByteArray), (⟨#[105, 110, 118, 105, 116, 101]⟩ : ByteArray), (⟨#[107, 110, 111, 99, 107]⟩ : ByteArray)] x
end Go.Proofs.YtkcgmimcopoknaaGreatDoor

namespace Go.Proofs.YtkcgmimcopoknaaGreatDoor
set_option maxRecDepth 100000
set_option linter.unusedVariables false
set_option linter.unusedSimpArgs false
open Go.RowKit


theorem arr9 {w : World} {b T : Nat} {x0 x1 x2 x3 x4 x5 x6 x7 x8 : Value} (h : Arr w b T [x0, x1, x2, x3, x4, x5, x6, x7, x8]) : w.cell? ⟨b, 0, none⟩ = some x0 ∧ w.cell? ⟨b, 1, none⟩ = some x1 ∧ w.cell? ⟨b, 2, none⟩ = some x2 ∧ w.cell? ⟨b, 3, none⟩ = some x3 ∧ w.cell? ⟨b, 4, none⟩ = some x4 ∧ w.cell? ⟨b, 5, none⟩ = some x5 ∧ w.cell? ⟨b, 6, none⟩ = some x6 ∧ w.cell? ⟨b, 7, none⟩ = some x7 ∧ w.cell? ⟨b, 8, none⟩ = some x8 :=
  ⟨h.cell 0 (by simp), h.cell 1 (by simp), h.cell 2 (by simp), h.cell 3 (by simp), h.cell 4 (by simp), h.cell 5 (by simp), h.cell 6 (by simp), h.cell 7 (by simp), h.cell 8 (by simp)⟩
/-- Behind the laying of a row. -/
structure NewAt (w W : World) (b t : Nat) (xs : List Value) : Prop where
  at_ : b = w.heap.size
  size : W.heap.size = w.heap.size + 1
  arr : Arr W b t xs
  below : Below w.heap.size w W
theorem NewAt.mk' (w : World) (t : Nat) (xs : List Value) : NewAt w (w.alloc (.cells xs.toArray t)) w.heap.size t xs := ⟨rfl, by simp, Arr.new _ _ _, (Below.refl _ w).alloc (Nat.le_refl _) _⟩
theorem NewAt.old {w W : World} {b t c u : Nat} {xs ys : List Value} (h : NewAt w W b t xs) (ha : Arr w c u ys) : Arr W c u ys := ha.below h.below ha.lt
theorem mv_size (xs : List Value) (h : xs.length = 9) : (Tryz.prog.info? 109).map (·.size) = some xs.toArray.size := by
  rw [show xs.toArray.size = 9 from by simp [h]]; kernel_rfl
theorem mv_row : ∃ fs, Tryz.prog.underlying 109 = some (.struct fs) := ⟨_, Tryz.underlying109⟩
section
variable {ops : Array Oper} {rest : List Oper} {o : Oper} {a : Act} {w : World} {Q : Exit → Act → World → Prop}
theorem wpL_boxT (T : TypeId) (hgd : o.guard = none) (x : Operand) (ho : o.op = .box T x) (xs : List Value) (hx : a.eval x = .agg xs.toArray)
    (h : ∀ b W, NewAt w W b T xs → wpList Tryz.prog ops Q rest (a.put o.dst (.pointer (some ⟨b, 0, none⟩))) W) :
    wpList Tryz.prog ops Q (o :: rest) a w := by
  refine wpList_plain hgd fun K hK => ?_
  have := hK _ _ (h w.heap.size (w.alloc (.cells xs.toArray T)) (NewAt.mk' _ _ _))
  unfold Oper.wp execOp
  simp only [ho, Instr.box, Sem.run_bind, Result.andThen_ok, hx]
  simp [newVar, newRow, Value.cells]
  exact this
theorem wpL_getM (hw : Region.wanted o (yielded ops a.tmps) = true) (x : Operand) (ho : o.op = .load 109 x) (b : Nat) (xs : List Value) (hx : a.eval x = .pointer (some ⟨b, 0, none⟩)) (hl : xs.length = 9) (hg : Arr w b 109 xs)
    (h : wpList Tryz.prog ops Q rest (a.put o.dst (.agg xs.toArray)) w) : wpList Tryz.prog ops Q (o :: rest) a w := by
  obtain ⟨fs, hu⟩ := mv_row
  exact wpList_load_row_g hw 109 x ho b hx 109 _ (0, 0) _ hg hu rfl (mv_size xs hl) h
end

def byB (sf : Bool) (s : ByteArray) : Bool := !sf && (s.toList == ([106, 111, 105, 110] : List UInt8))
def entB (r a : ByteArray) : Bool := (anyW [(⟨#[106, 111, 105, 110]⟩ : ByteArray), (⟨#[105, 110, 118, 105, 116, 101]⟩ : ByteArray)] a) || (!(a.toList == ([98, 97, 110] : List UInt8)) && (r.toList == ([112, 117, 98, 108, 105, 99] : List UInt8)))
def remB (a : ByteArray) (ki bn : Bool) : Bool := ((a.toList == ([98, 97, 110] : List UInt8)) && bn) || (inB a && ki)
def ckE (r s a t : ByteArray) : Int := if ruleB r && isB s && isB a && isB t then 0 else 2
set_option maxHeartbeats 8000000 in
theorem byM_any (w : World) (r s a t : ByteArray) (sf iv ki bn ab : Bool) :
    Calls Tryz.prog 116 #[.agg #[.string r, .string s, .string a, .string t, .bool sf, .bool iv, .bool ki, .bool bn, .bool ab]] w fun e w' => e = .returned (.bool (byB sf s)) ∧ Below w.heap.size w w' := by

  cases sf with
  | false =>
    cases q1 : (s.toList == ([106, 111, 105, 110] : List UInt8)) with
    | false =>
      have HF := hidp (show (byB false s) = false from by unfold byB; simp [q1])
      have m1 : (s.toList != ([106, 111, 105, 110] : List UInt8)) = true := by rw [bne, q1]; rfl
      go_enter Tryz.func116, Tryz.ntmps116
      go_wp2_with (first | (refine wpL_boxT 109 rfl _ rfl [.string r, .string s, .string a, .string t, .bool false, .bool iv, .bool ki, .bool bn, .bool ab] rfl ?_; intro b1 w1 n1; have HB := hidp n1.below; have HA := hidp n1.arr; clear n1; obtain ⟨x0, x1, x2, x3, x4, x5, x6, x7, x8⟩ := arr9 HA.out) | fail)
      go_ret
      exact ⟨by rw [HF.out]; rfl, HB.out⟩
    | true =>
      have HF := hidp (show (byB false s) = true from by unfold byB; simp [q1])
      have m1 : (s.toList != ([106, 111, 105, 110] : List UInt8)) = false := by rw [bne, q1]; rfl
      go_enter Tryz.func116, Tryz.ntmps116
      go_wp2_with (first | (refine wpL_boxT 109 rfl _ rfl [.string r, .string s, .string a, .string t, .bool false, .bool iv, .bool ki, .bool bn, .bool ab] rfl ?_; intro b1 w1 n1; have HB := hidp n1.below; have HA := hidp n1.arr; clear n1; obtain ⟨x0, x1, x2, x3, x4, x5, x6, x7, x8⟩ := arr9 HA.out) | fail)
      go_ret
      exact ⟨by rw [HF.out]; rfl, HB.out⟩
  | true =>
    have HF := hidp (show (byB true s) = false from by unfold byB; simp [])
    go_enter Tryz.func116, Tryz.ntmps116
    go_wp2_with (first | (refine wpL_boxT 109 rfl _ rfl [.string r, .string s, .string a, .string t, .bool true, .bool iv, .bool ki, .bool bn, .bool ab] rfl ?_; intro b1 w1 n1; have HB := hidp n1.below; have HA := hidp n1.arr; clear n1; obtain ⟨x0, x1, x2, x3, x4, x5, x6, x7, x8⟩ := arr9 HA.out) | fail)
    go_ret
    exact ⟨by rw [HF.out]; rfl, HB.out⟩
set_option maxHeartbeats 8000000 in
theorem conc_any (w : World) (r s a t : ByteArray) (sf iv ki bn ab : Bool) :
    Calls Tryz.prog 117 #[.agg #[.string r, .string s, .string a, .string t, .bool sf, .bool iv, .bool ki, .bool bn, .bool ab]] w fun e w' => e = .returned (.bool (inB a)) ∧ Below w.heap.size w w' := by
  go_enter Tryz.func117, Tryz.ntmps117
  go_wp2_with (first | (refine wpL_boxT 109 rfl _ rfl [.string r, .string s, .string a, .string t, .bool sf, .bool iv, .bool ki, .bool bn, .bool ab] rfl ?_; intro b1 w1 n1; have HB := hidp n1.below; have HA := hidp n1.arr; clear n1; obtain ⟨x0, x1, x2, x3, x4, x5, x6, x7, x8⟩ := arr9 HA.out) | (go_at_call 90; refine (oneOf_any _ _ [(⟨#[106, 111, 105, 110]⟩ : ByteArray), (⟨#[105, 110, 118, 105, 116, 101]⟩ : ByteArray), (⟨#[107, 110, 111, 99, 107]⟩ : ByteArray)] _ (ws3 _ (⟨#[106, 111, 105, 110]⟩ : ByteArray) (⟨#[105, 110, 118, 105, 116, 101]⟩ : ByteArray) (⟨#[107, 110, 111, 99, 107]⟩ : ByteArray) 9) (by simp)).mono ?_; rintro e w2 ⟨rfl, rfl⟩; replace HB := hidp (HB.out.alloc HB.out.size (.cells #[.string (⟨#[106, 111, 105, 110]⟩ : ByteArray), .string (⟨#[105, 110, 118, 105, 116, 101]⟩ : ByteArray), .string (⟨#[107, 110, 111, 99, 107]⟩ : ByteArray)] 9)); replace HA := hidp (HA.out.alloc (.cells #[.string (⟨#[106, 111, 105, 110]⟩ : ByteArray), .string (⟨#[105, 110, 118, 105, 116, 101]⟩ : ByteArray), .string (⟨#[107, 110, 111, 99, 107]⟩ : ByteArray)] 9)); clear x0 x1 x2 x3 x4 x5 x6 x7 x8; obtain ⟨x0, x1, x2, x3, x4, x5, x6, x7, x8⟩ := arr9 HA.out))
  go_ret
  exact ⟨rfl, HB.out⟩
set_option maxHeartbeats 8000000 in
theorem ent_any (w : World) (r s a t : ByteArray) (sf iv ki bn ab : Bool) :
    Calls Tryz.prog 115 #[.agg #[.string r, .string s, .string a, .string t, .bool sf, .bool iv, .bool ki, .bool bn, .bool ab]] w fun e w' => e = .returned (.bool (entB r a)) ∧ Below w.heap.size w w' := by

  cases q0 : (anyW [(⟨#[106, 111, 105, 110]⟩ : ByteArray), (⟨#[105, 110, 118, 105, 116, 101]⟩ : ByteArray)] a) with
  | false =>
    cases q1 : (a.toList == ([98, 97, 110] : List UInt8)) with
    | false =>
      cases q2 : (r.toList == ([112, 117, 98, 108, 105, 99] : List UInt8)) with
      | false =>
        have HF := hidp (show (entB r a) = false from by unfold entB; simp [q0, q1, q2])
        have m1 : (a.toList != ([98, 97, 110] : List UInt8)) = true := by rw [bne, q1]; rfl
        have m2 : (r.toList != ([112, 117, 98, 108, 105, 99] : List UInt8)) = true := by rw [bne, q2]; rfl
        go_enter Tryz.func115, Tryz.ntmps115
        go_wp2_with (first | (refine wpL_boxT 109 rfl _ rfl [.string r, .string s, .string a, .string t, .bool sf, .bool iv, .bool ki, .bool bn, .bool ab] rfl ?_; intro b1 w1 n1; have HB := hidp n1.below; have HA := hidp n1.arr; clear n1; obtain ⟨x0, x1, x2, x3, x4, x5, x6, x7, x8⟩ := arr9 HA.out) | (go_at_call 90; refine (oneOf_any _ _ [(⟨#[106, 111, 105, 110]⟩ : ByteArray), (⟨#[105, 110, 118, 105, 116, 101]⟩ : ByteArray)] _ (ws2 _ (⟨#[106, 111, 105, 110]⟩ : ByteArray) (⟨#[105, 110, 118, 105, 116, 101]⟩ : ByteArray) 9) (by simp)).mono ?_; rintro e w2 ⟨rfl, rfl⟩; replace HB := hidp (HB.out.alloc HB.out.size (.cells #[.string (⟨#[106, 111, 105, 110]⟩ : ByteArray), .string (⟨#[105, 110, 118, 105, 116, 101]⟩ : ByteArray)] 9)); replace HA := hidp (HA.out.alloc (.cells #[.string (⟨#[106, 111, 105, 110]⟩ : ByteArray), .string (⟨#[105, 110, 118, 105, 116, 101]⟩ : ByteArray)] 9)); clear x0 x1 x2 x3 x4 x5 x6 x7 x8; obtain ⟨x0, x1, x2, x3, x4, x5, x6, x7, x8⟩ := arr9 HA.out))
        go_ret
        exact ⟨by rw [HF.out]; rfl, HB.out⟩
      | true =>
        have HF := hidp (show (entB r a) = true from by unfold entB; simp [q0, q1, q2])
        have m1 : (a.toList != ([98, 97, 110] : List UInt8)) = true := by rw [bne, q1]; rfl
        have m2 : (r.toList != ([112, 117, 98, 108, 105, 99] : List UInt8)) = false := by rw [bne, q2]; rfl
        go_enter Tryz.func115, Tryz.ntmps115
        go_wp2_with (first | (refine wpL_boxT 109 rfl _ rfl [.string r, .string s, .string a, .string t, .bool sf, .bool iv, .bool ki, .bool bn, .bool ab] rfl ?_; intro b1 w1 n1; have HB := hidp n1.below; have HA := hidp n1.arr; clear n1; obtain ⟨x0, x1, x2, x3, x4, x5, x6, x7, x8⟩ := arr9 HA.out) | (go_at_call 90; refine (oneOf_any _ _ [(⟨#[106, 111, 105, 110]⟩ : ByteArray), (⟨#[105, 110, 118, 105, 116, 101]⟩ : ByteArray)] _ (ws2 _ (⟨#[106, 111, 105, 110]⟩ : ByteArray) (⟨#[105, 110, 118, 105, 116, 101]⟩ : ByteArray) 9) (by simp)).mono ?_; rintro e w2 ⟨rfl, rfl⟩; replace HB := hidp (HB.out.alloc HB.out.size (.cells #[.string (⟨#[106, 111, 105, 110]⟩ : ByteArray), .string (⟨#[105, 110, 118, 105, 116, 101]⟩ : ByteArray)] 9)); replace HA := hidp (HA.out.alloc (.cells #[.string (⟨#[106, 111, 105, 110]⟩ : ByteArray), .string (⟨#[105, 110, 118, 105, 116, 101]⟩ : ByteArray)] 9)); clear x0 x1 x2 x3 x4 x5 x6 x7 x8; obtain ⟨x0, x1, x2, x3, x4, x5, x6, x7, x8⟩ := arr9 HA.out))
        go_ret
        exact ⟨by rw [HF.out]; rfl, HB.out⟩
    | true =>
      have HF := hidp (show (entB r a) = false from by unfold entB; simp [q0, q1])
      have m1 : (a.toList != ([98, 97, 110] : List UInt8)) = false := by rw [bne, q1]; rfl
      go_enter Tryz.func115, Tryz.ntmps115
      go_wp2_with (first | (refine wpL_boxT 109 rfl _ rfl [.string r, .string s, .string a, .string t, .bool sf, .bool iv, .bool ki, .bool bn, .bool ab] rfl ?_; intro b1 w1 n1; have HB := hidp n1.below; have HA := hidp n1.arr; clear n1; obtain ⟨x0, x1, x2, x3, x4, x5, x6, x7, x8⟩ := arr9 HA.out) | (go_at_call 90; refine (oneOf_any _ _ [(⟨#[106, 111, 105, 110]⟩ : ByteArray), (⟨#[105, 110, 118, 105, 116, 101]⟩ : ByteArray)] _ (ws2 _ (⟨#[106, 111, 105, 110]⟩ : ByteArray) (⟨#[105, 110, 118, 105, 116, 101]⟩ : ByteArray) 9) (by simp)).mono ?_; rintro e w2 ⟨rfl, rfl⟩; replace HB := hidp (HB.out.alloc HB.out.size (.cells #[.string (⟨#[106, 111, 105, 110]⟩ : ByteArray), .string (⟨#[105, 110, 118, 105, 116, 101]⟩ : ByteArray)] 9)); replace HA := hidp (HA.out.alloc (.cells #[.string (⟨#[106, 111, 105, 110]⟩ : ByteArray), .string (⟨#[105, 110, 118, 105, 116, 101]⟩ : ByteArray)] 9)); clear x0 x1 x2 x3 x4 x5 x6 x7 x8; obtain ⟨x0, x1, x2, x3, x4, x5, x6, x7, x8⟩ := arr9 HA.out))
      go_ret
      exact ⟨by rw [HF.out]; rfl, HB.out⟩
  | true =>
    have HF := hidp (show (entB r a) = true from by unfold entB; simp [q0])
    go_enter Tryz.func115, Tryz.ntmps115
    go_wp2_with (first | (refine wpL_boxT 109 rfl _ rfl [.string r, .string s, .string a, .string t, .bool sf, .bool iv, .bool ki, .bool bn, .bool ab] rfl ?_; intro b1 w1 n1; have HB := hidp n1.below; have HA := hidp n1.arr; clear n1; obtain ⟨x0, x1, x2, x3, x4, x5, x6, x7, x8⟩ := arr9 HA.out) | (go_at_call 90; refine (oneOf_any _ _ [(⟨#[106, 111, 105, 110]⟩ : ByteArray), (⟨#[105, 110, 118, 105, 116, 101]⟩ : ByteArray)] _ (ws2 _ (⟨#[106, 111, 105, 110]⟩ : ByteArray) (⟨#[105, 110, 118, 105, 116, 101]⟩ : ByteArray) 9) (by simp)).mono ?_; rintro e w2 ⟨rfl, rfl⟩; replace HB := hidp (HB.out.alloc HB.out.size (.cells #[.string (⟨#[106, 111, 105, 110]⟩ : ByteArray), .string (⟨#[105, 110, 118, 105, 116, 101]⟩ : ByteArray)] 9)); replace HA := hidp (HA.out.alloc (.cells #[.string (⟨#[106, 111, 105, 110]⟩ : ByteArray), .string (⟨#[105, 110, 118, 105, 116, 101]⟩ : ByteArray)] 9)); clear x0 x1 x2 x3 x4 x5 x6 x7 x8; obtain ⟨x0, x1, x2, x3, x4, x5, x6, x7, x8⟩ := arr9 HA.out))
    go_ret
    exact ⟨by rw [HF.out]; rfl, HB.out⟩
set_option maxHeartbeats 8000000 in
theorem rem_any (w : World) (r s a t : ByteArray) (sf iv ki bn ab : Bool) :
    Calls Tryz.prog 118 #[.agg #[.string r, .string s, .string a, .string t, .bool sf, .bool iv, .bool ki, .bool bn, .bool ab]] w fun e w' => e = .returned (.bool (remB a ki bn)) ∧ Below w.heap.size w w' := by

  cases q0 : (a.toList == ([98, 97, 110] : List UInt8)) with
  | false =>
    cases q1 : (inB a) with
    | false =>
      have HF := hidp (show (remB a ki bn) = false from by unfold remB; simp [q0, q1])
      have m0 : (a.toList != ([98, 97, 110] : List UInt8)) = true := by rw [bne, q0]; rfl
      go_enter Tryz.func118, Tryz.ntmps118
      go_wp2_with (first | (refine wpL_boxT 109 rfl _ rfl [.string r, .string s, .string a, .string t, .bool sf, .bool iv, .bool ki, .bool bn, .bool ab] rfl ?_; intro b1 w1 n1; have HB := hidp n1.below; have HA := hidp n1.arr; clear n1; obtain ⟨x0, x1, x2, x3, x4, x5, x6, x7, x8⟩ := arr9 HA.out) | (first | (refine wpL_getM rfl (.tmp 1) rfl b1 [.string r, .string s, .string a, .string t, .bool sf, .bool iv, .bool ki, .bool bn, .bool ab] rfl rfl HA.out ?_) | (go_at_call 117; refine (conc_any _ r s a t _ _ _ _ _).mono ?_; rintro e w1 ⟨rfl, hb⟩; clear x0 x1 x2 x3 x4 x5 x6 x7 x8; replace HB := hidp (HB.out.trans (hb.mono HB.out.size)); replace HA := hidp (HA.out.below hb HA.out.lt); clear hb; obtain ⟨x0, x1, x2, x3, x4, x5, x6, x7, x8⟩ := arr9 HA.out)))
      go_ret
      exact ⟨by rw [HF.out]; rfl, HB.out⟩
    | true =>
      cases ki with
      | false =>
        have HF := hidp (show (remB a false bn) = false from by unfold remB; simp [q0, q1])
        have m0 : (a.toList != ([98, 97, 110] : List UInt8)) = true := by rw [bne, q0]; rfl
        go_enter Tryz.func118, Tryz.ntmps118
        go_wp2_with (first | (refine wpL_boxT 109 rfl _ rfl [.string r, .string s, .string a, .string t, .bool sf, .bool iv, .bool false, .bool bn, .bool ab] rfl ?_; intro b1 w1 n1; have HB := hidp n1.below; have HA := hidp n1.arr; clear n1; obtain ⟨x0, x1, x2, x3, x4, x5, x6, x7, x8⟩ := arr9 HA.out) | (first | (refine wpL_getM rfl (.tmp 1) rfl b1 [.string r, .string s, .string a, .string t, .bool sf, .bool iv, .bool false, .bool bn, .bool ab] rfl rfl HA.out ?_) | (go_at_call 117; refine (conc_any _ r s a t _ _ _ _ _).mono ?_; rintro e w1 ⟨rfl, hb⟩; clear x0 x1 x2 x3 x4 x5 x6 x7 x8; replace HB := hidp (HB.out.trans (hb.mono HB.out.size)); replace HA := hidp (HA.out.below hb HA.out.lt); clear hb; obtain ⟨x0, x1, x2, x3, x4, x5, x6, x7, x8⟩ := arr9 HA.out)))
        go_ret
        exact ⟨by rw [HF.out]; rfl, HB.out⟩
      | true =>
        have HF := hidp (show (remB a true bn) = true from by unfold remB; simp [q0, q1])
        have m0 : (a.toList != ([98, 97, 110] : List UInt8)) = true := by rw [bne, q0]; rfl
        go_enter Tryz.func118, Tryz.ntmps118
        go_wp2_with (first | (refine wpL_boxT 109 rfl _ rfl [.string r, .string s, .string a, .string t, .bool sf, .bool iv, .bool true, .bool bn, .bool ab] rfl ?_; intro b1 w1 n1; have HB := hidp n1.below; have HA := hidp n1.arr; clear n1; obtain ⟨x0, x1, x2, x3, x4, x5, x6, x7, x8⟩ := arr9 HA.out) | (first | (refine wpL_getM rfl (.tmp 1) rfl b1 [.string r, .string s, .string a, .string t, .bool sf, .bool iv, .bool true, .bool bn, .bool ab] rfl rfl HA.out ?_) | (go_at_call 117; refine (conc_any _ r s a t _ _ _ _ _).mono ?_; rintro e w1 ⟨rfl, hb⟩; clear x0 x1 x2 x3 x4 x5 x6 x7 x8; replace HB := hidp (HB.out.trans (hb.mono HB.out.size)); replace HA := hidp (HA.out.below hb HA.out.lt); clear hb; obtain ⟨x0, x1, x2, x3, x4, x5, x6, x7, x8⟩ := arr9 HA.out)))
        go_ret
        exact ⟨by rw [HF.out]; rfl, HB.out⟩
  | true =>
    cases bn with
    | false =>
      cases q2 : (inB a) with
      | false =>
        have HF := hidp (show (remB a ki false) = false from by unfold remB; simp [q0, q2])
        have m0 : (a.toList != ([98, 97, 110] : List UInt8)) = false := by rw [bne, q0]; rfl
        go_enter Tryz.func118, Tryz.ntmps118
        go_wp2_with (first | (refine wpL_boxT 109 rfl _ rfl [.string r, .string s, .string a, .string t, .bool sf, .bool iv, .bool ki, .bool false, .bool ab] rfl ?_; intro b1 w1 n1; have HB := hidp n1.below; have HA := hidp n1.arr; clear n1; obtain ⟨x0, x1, x2, x3, x4, x5, x6, x7, x8⟩ := arr9 HA.out) | (first | (refine wpL_getM rfl (.tmp 1) rfl b1 [.string r, .string s, .string a, .string t, .bool sf, .bool iv, .bool ki, .bool false, .bool ab] rfl rfl HA.out ?_) | (go_at_call 117; refine (conc_any _ r s a t _ _ _ _ _).mono ?_; rintro e w1 ⟨rfl, hb⟩; clear x0 x1 x2 x3 x4 x5 x6 x7 x8; replace HB := hidp (HB.out.trans (hb.mono HB.out.size)); replace HA := hidp (HA.out.below hb HA.out.lt); clear hb; obtain ⟨x0, x1, x2, x3, x4, x5, x6, x7, x8⟩ := arr9 HA.out)))
        go_ret
        exact ⟨by rw [HF.out]; rfl, HB.out⟩
      | true =>
        cases ki with
        | false =>
          have HF := hidp (show (remB a false false) = false from by unfold remB; simp [q0, q2])
          have m0 : (a.toList != ([98, 97, 110] : List UInt8)) = false := by rw [bne, q0]; rfl
          go_enter Tryz.func118, Tryz.ntmps118
          go_wp2_with (first | (refine wpL_boxT 109 rfl _ rfl [.string r, .string s, .string a, .string t, .bool sf, .bool iv, .bool false, .bool false, .bool ab] rfl ?_; intro b1 w1 n1; have HB := hidp n1.below; have HA := hidp n1.arr; clear n1; obtain ⟨x0, x1, x2, x3, x4, x5, x6, x7, x8⟩ := arr9 HA.out) | (first | (refine wpL_getM rfl (.tmp 1) rfl b1 [.string r, .string s, .string a, .string t, .bool sf, .bool iv, .bool false, .bool false, .bool ab] rfl rfl HA.out ?_) | (go_at_call 117; refine (conc_any _ r s a t _ _ _ _ _).mono ?_; rintro e w1 ⟨rfl, hb⟩; clear x0 x1 x2 x3 x4 x5 x6 x7 x8; replace HB := hidp (HB.out.trans (hb.mono HB.out.size)); replace HA := hidp (HA.out.below hb HA.out.lt); clear hb; obtain ⟨x0, x1, x2, x3, x4, x5, x6, x7, x8⟩ := arr9 HA.out)))
          go_ret
          exact ⟨by rw [HF.out]; rfl, HB.out⟩
        | true =>
          have HF := hidp (show (remB a true false) = true from by unfold remB; simp [q0, q2])
          have m0 : (a.toList != ([98, 97, 110] : List UInt8)) = false := by rw [bne, q0]; rfl
          go_enter Tryz.func118, Tryz.ntmps118
          go_wp2_with (first | (refine wpL_boxT 109 rfl _ rfl [.string r, .string s, .string a, .string t, .bool sf, .bool iv, .bool true, .bool false, .bool ab] rfl ?_; intro b1 w1 n1; have HB := hidp n1.below; have HA := hidp n1.arr; clear n1; obtain ⟨x0, x1, x2, x3, x4, x5, x6, x7, x8⟩ := arr9 HA.out) | (first | (refine wpL_getM rfl (.tmp 1) rfl b1 [.string r, .string s, .string a, .string t, .bool sf, .bool iv, .bool true, .bool false, .bool ab] rfl rfl HA.out ?_) | (go_at_call 117; refine (conc_any _ r s a t _ _ _ _ _).mono ?_; rintro e w1 ⟨rfl, hb⟩; clear x0 x1 x2 x3 x4 x5 x6 x7 x8; replace HB := hidp (HB.out.trans (hb.mono HB.out.size)); replace HA := hidp (HA.out.below hb HA.out.lt); clear hb; obtain ⟨x0, x1, x2, x3, x4, x5, x6, x7, x8⟩ := arr9 HA.out)))
          go_ret
          exact ⟨by rw [HF.out]; rfl, HB.out⟩
    | true =>
      have HF := hidp (show (remB a ki true) = true from by unfold remB; simp [q0])
      have m0 : (a.toList != ([98, 97, 110] : List UInt8)) = false := by rw [bne, q0]; rfl
      go_enter Tryz.func118, Tryz.ntmps118
      go_wp2_with (first | (refine wpL_boxT 109 rfl _ rfl [.string r, .string s, .string a, .string t, .bool sf, .bool iv, .bool ki, .bool true, .bool ab] rfl ?_; intro b1 w1 n1; have HB := hidp n1.below; have HA := hidp n1.arr; clear n1; obtain ⟨x0, x1, x2, x3, x4, x5, x6, x7, x8⟩ := arr9 HA.out) | (first | (refine wpL_getM rfl (.tmp 1) rfl b1 [.string r, .string s, .string a, .string t, .bool sf, .bool iv, .bool ki, .bool true, .bool ab] rfl rfl HA.out ?_) | (go_at_call 117; refine (conc_any _ r s a t _ _ _ _ _).mono ?_; rintro e w1 ⟨rfl, hb⟩; clear x0 x1 x2 x3 x4 x5 x6 x7 x8; replace HB := hidp (HB.out.trans (hb.mono HB.out.size)); replace HA := hidp (HA.out.below hb HA.out.lt); clear hb; obtain ⟨x0, x1, x2, x3, x4, x5, x6, x7, x8⟩ := arr9 HA.out)))
      go_ret
      exact ⟨by rw [HF.out]; rfl, HB.out⟩
set_option maxHeartbeats 8000000 in
theorem check_any (w : World) (r s a t : ByteArray) (sf iv ki bn ab : Bool) :
    Calls Tryz.prog 91 #[.agg #[.string r, .string s, .string a, .string t, .bool sf, .bool iv, .bool ki, .bool bn, .bool ab]] w fun e w' => e = .returned (.int .i64 (ckE r s a t)) ∧ Below w.heap.size w w' := by

  cases q0 : (ruleB r) with
  | false =>
    have HF := hidp (show (ckE r s a t) = 2 from by unfold ckE; simp [q0])
    go_enter Tryz.func91, Tryz.ntmps91
    go_wp2_with (first | (refine wpL_boxT 109 rfl _ rfl [.string r, .string s, .string a, .string t, .bool sf, .bool iv, .bool ki, .bool bn, .bool ab] rfl ?_; intro b1 w1 n1; have HB := hidp n1.below; have HA := hidp n1.arr; clear n1; obtain ⟨x0, x1, x2, x3, x4, x5, x6, x7, x8⟩ := arr9 HA.out) | (first | (go_at_call 69; refine (rule_any _ _).mono ?_; rintro e w1 ⟨rfl, hb⟩; clear x0 x1 x2 x3 x4 x5 x6 x7 x8; replace HB := hidp (HB.out.trans (hb.mono HB.out.size)); replace HA := hidp (HA.out.below hb HA.out.lt); clear hb; obtain ⟨x0, x1, x2, x3, x4, x5, x6, x7, x8⟩ := arr9 HA.out) | (go_at_call 63; refine (is_any _ _).mono ?_; rintro e w1 ⟨rfl, hb⟩; clear x0 x1 x2 x3 x4 x5 x6 x7 x8; replace HB := hidp (HB.out.trans (hb.mono HB.out.size)); replace HA := hidp (HA.out.below hb HA.out.lt); clear hb; obtain ⟨x0, x1, x2, x3, x4, x5, x6, x7, x8⟩ := arr9 HA.out)))
    go_ret
    exact ⟨by rw [HF.out]; rfl, HB.out⟩
  | true =>
    cases q1 : (isB s) with
    | false =>
      have HF := hidp (show (ckE r s a t) = 2 from by unfold ckE; simp [q0, q1])
      go_enter Tryz.func91, Tryz.ntmps91
      go_wp2_with (first | (refine wpL_boxT 109 rfl _ rfl [.string r, .string s, .string a, .string t, .bool sf, .bool iv, .bool ki, .bool bn, .bool ab] rfl ?_; intro b1 w1 n1; have HB := hidp n1.below; have HA := hidp n1.arr; clear n1; obtain ⟨x0, x1, x2, x3, x4, x5, x6, x7, x8⟩ := arr9 HA.out) | (first | (go_at_call 69; refine (rule_any _ _).mono ?_; rintro e w1 ⟨rfl, hb⟩; clear x0 x1 x2 x3 x4 x5 x6 x7 x8; replace HB := hidp (HB.out.trans (hb.mono HB.out.size)); replace HA := hidp (HA.out.below hb HA.out.lt); clear hb; obtain ⟨x0, x1, x2, x3, x4, x5, x6, x7, x8⟩ := arr9 HA.out) | (go_at_call 63; refine (is_any _ _).mono ?_; rintro e w1 ⟨rfl, hb⟩; clear x0 x1 x2 x3 x4 x5 x6 x7 x8; replace HB := hidp (HB.out.trans (hb.mono HB.out.size)); replace HA := hidp (HA.out.below hb HA.out.lt); clear hb; obtain ⟨x0, x1, x2, x3, x4, x5, x6, x7, x8⟩ := arr9 HA.out)))
      go_ret
      exact ⟨by rw [HF.out]; rfl, HB.out⟩
    | true =>
      cases q2 : (isB a) with
      | false =>
        have HF := hidp (show (ckE r s a t) = 2 from by unfold ckE; simp [q0, q1, q2])
        go_enter Tryz.func91, Tryz.ntmps91
        go_wp2_with (first | (refine wpL_boxT 109 rfl _ rfl [.string r, .string s, .string a, .string t, .bool sf, .bool iv, .bool ki, .bool bn, .bool ab] rfl ?_; intro b1 w1 n1; have HB := hidp n1.below; have HA := hidp n1.arr; clear n1; obtain ⟨x0, x1, x2, x3, x4, x5, x6, x7, x8⟩ := arr9 HA.out) | (first | (go_at_call 69; refine (rule_any _ _).mono ?_; rintro e w1 ⟨rfl, hb⟩; clear x0 x1 x2 x3 x4 x5 x6 x7 x8; replace HB := hidp (HB.out.trans (hb.mono HB.out.size)); replace HA := hidp (HA.out.below hb HA.out.lt); clear hb; obtain ⟨x0, x1, x2, x3, x4, x5, x6, x7, x8⟩ := arr9 HA.out) | (go_at_call 63; refine (is_any _ _).mono ?_; rintro e w1 ⟨rfl, hb⟩; clear x0 x1 x2 x3 x4 x5 x6 x7 x8; replace HB := hidp (HB.out.trans (hb.mono HB.out.size)); replace HA := hidp (HA.out.below hb HA.out.lt); clear hb; obtain ⟨x0, x1, x2, x3, x4, x5, x6, x7, x8⟩ := arr9 HA.out)))
        go_ret
        exact ⟨by rw [HF.out]; rfl, HB.out⟩
      | true =>
        cases q3 : (isB t) with
        | false =>
          have HF := hidp (show (ckE r s a t) = 2 from by unfold ckE; simp [q0, q1, q2, q3])
          go_enter Tryz.func91, Tryz.ntmps91
          go_wp2_with (first | (refine wpL_boxT 109 rfl _ rfl [.string r, .string s, .string a, .string t, .bool sf, .bool iv, .bool ki, .bool bn, .bool ab] rfl ?_; intro b1 w1 n1; have HB := hidp n1.below; have HA := hidp n1.arr; clear n1; obtain ⟨x0, x1, x2, x3, x4, x5, x6, x7, x8⟩ := arr9 HA.out) | (first | (go_at_call 69; refine (rule_any _ _).mono ?_; rintro e w1 ⟨rfl, hb⟩; clear x0 x1 x2 x3 x4 x5 x6 x7 x8; replace HB := hidp (HB.out.trans (hb.mono HB.out.size)); replace HA := hidp (HA.out.below hb HA.out.lt); clear hb; obtain ⟨x0, x1, x2, x3, x4, x5, x6, x7, x8⟩ := arr9 HA.out) | (go_at_call 63; refine (is_any _ _).mono ?_; rintro e w1 ⟨rfl, hb⟩; clear x0 x1 x2 x3 x4 x5 x6 x7 x8; replace HB := hidp (HB.out.trans (hb.mono HB.out.size)); replace HA := hidp (HA.out.below hb HA.out.lt); clear hb; obtain ⟨x0, x1, x2, x3, x4, x5, x6, x7, x8⟩ := arr9 HA.out)))
          go_ret
          exact ⟨by rw [HF.out]; rfl, HB.out⟩
        | true =>
          have HF := hidp (show (ckE r s a t) = 0 from by unfold ckE; simp [q0, q1, q2, q3])
          go_enter Tryz.func91, Tryz.ntmps91
          go_wp2_with (first | (refine wpL_boxT 109 rfl _ rfl [.string r, .string s, .string a, .string t, .bool sf, .bool iv, .bool ki, .bool bn, .bool ab] rfl ?_; intro b1 w1 n1; have HB := hidp n1.below; have HA := hidp n1.arr; clear n1; obtain ⟨x0, x1, x2, x3, x4, x5, x6, x7, x8⟩ := arr9 HA.out) | (first | (go_at_call 69; refine (rule_any _ _).mono ?_; rintro e w1 ⟨rfl, hb⟩; clear x0 x1 x2 x3 x4 x5 x6 x7 x8; replace HB := hidp (HB.out.trans (hb.mono HB.out.size)); replace HA := hidp (HA.out.below hb HA.out.lt); clear hb; obtain ⟨x0, x1, x2, x3, x4, x5, x6, x7, x8⟩ := arr9 HA.out) | (go_at_call 63; refine (is_any _ _).mono ?_; rintro e w1 ⟨rfl, hb⟩; clear x0 x1 x2 x3 x4 x5 x6 x7 x8; replace HB := hidp (HB.out.trans (hb.mono HB.out.size)); replace HA := hidp (HA.out.below hb HA.out.lt); clear hb; obtain ⟨x0, x1, x2, x3, x4, x5, x6, x7, x8⟩ := arr9 HA.out)))
          go_ret
          exact ⟨by rw [HF.out]; rfl, HB.out⟩
end Go.Proofs.YtkcgmimcopoknaaGreatDoor

namespace Go.Proofs.YtkcgmimcopoknaaGreatDoor
set_option maxRecDepth 100000
set_option linter.unusedVariables false
set_option linter.unusedSimpArgs false
open Go.RowKit


def mayB (r s a t : ByteArray) (sf iv ki bn ab : Bool) : Bool := if (t.toList == ([106, 111, 105, 110] : List UInt8)) then (sf && (entB r a)) else if (t.toList == ([105, 110, 118, 105, 116, 101] : List UInt8)) then (((byB sf s) && !((anyW [(⟨#[106, 111, 105, 110]⟩ : ByteArray), (⟨#[98, 97, 110]⟩ : ByteArray)] a))) && iv) else if (t.toList == ([108, 101, 97, 118, 101] : List UInt8)) then ((sf && (inB a)) || (((byB sf s) && ab) && (remB a ki bn))) else if (t.toList == ([98, 97, 110] : List UInt8)) then (((byB sf s) && ab) && bn) else if (t.toList == ([107, 110, 111, 99, 107] : List UInt8)) then ((sf && (r.toList == ([107, 110, 111, 99, 107] : List UInt8))) && (a.toList == ([108, 101, 97, 118, 101] : List UInt8))) else false
def alE (r s a t : ByteArray) (sf iv ki bn ab : Bool) : Int := if ckE r s a t = 0 then (if mayB r s a t sf iv ki bn ab then 0 else 12) else 2
/-- A word is one of five, or none. -/
def One (t : ByteArray) (k : Nat) : Prop := (t.toList == ([106, 111, 105, 110] : List UInt8)) = decide (k = 0) ∧ (t.toList == ([105, 110, 118, 105, 116, 101] : List UInt8)) = decide (k = 1) ∧ (t.toList == ([108, 101, 97, 118, 101] : List UInt8)) = decide (k = 2) ∧ (t.toList == ([98, 97, 110] : List UInt8)) = decide (k = 3) ∧ (t.toList == ([107, 110, 111, 99, 107] : List UInt8)) = decide (k = 4)
theorem one_of (t : ByteArray) : ∃ k, k ≤ 5 ∧ One t k := by
  by_cases h0 : t = (⟨#[106, 111, 105, 110]⟩ : ByteArray)
  · exact ⟨0, by omega, by subst h0; unfold One; simp [toList_lit]⟩
  by_cases h1 : t = (⟨#[105, 110, 118, 105, 116, 101]⟩ : ByteArray)
  · exact ⟨1, by omega, by subst h1; unfold One; simp [toList_lit]⟩
  by_cases h2 : t = (⟨#[108, 101, 97, 118, 101]⟩ : ByteArray)
  · exact ⟨2, by omega, by subst h2; unfold One; simp [toList_lit]⟩
  by_cases h3 : t = (⟨#[98, 97, 110]⟩ : ByteArray)
  · exact ⟨3, by omega, by subst h3; unfold One; simp [toList_lit]⟩
  by_cases h4 : t = (⟨#[107, 110, 111, 99, 107]⟩ : ByteArray)
  · exact ⟨4, by omega, by subst h4; unfold One; simp [toList_lit]⟩
  exact ⟨5, by omega, (by rw [show decide ((5 : Nat) = 0) = false from rfl, ← toList_lit ([106, 111, 105, 110] : List UInt8)]; exact (Go.Lib.bytes_beq_false_iff _ _).2 h0), (by rw [show decide ((5 : Nat) = 1) = false from rfl, ← toList_lit ([105, 110, 118, 105, 116, 101] : List UInt8)]; exact (Go.Lib.bytes_beq_false_iff _ _).2 h1), (by rw [show decide ((5 : Nat) = 2) = false from rfl, ← toList_lit ([108, 101, 97, 118, 101] : List UInt8)]; exact (Go.Lib.bytes_beq_false_iff _ _).2 h2), (by rw [show decide ((5 : Nat) = 3) = false from rfl, ← toList_lit ([98, 97, 110] : List UInt8)]; exact (Go.Lib.bytes_beq_false_iff _ _).2 h3), (by rw [show decide ((5 : Nat) = 4) = false from rfl, ← toList_lit ([107, 110, 111, 99, 107] : List UInt8)]; exact (Go.Lib.bytes_beq_false_iff _ _).2 h4)⟩
set_option maxHeartbeats 16000000 in
theorem may_0 (w : World) (r s a t : ByteArray) (sf iv ki bn ab : Bool) (hO : One t 0) :
    Calls Tryz.prog 92 #[.agg #[.string r, .string s, .string a, .string t, .bool sf, .bool iv, .bool ki, .bool bn, .bool ab]] w fun e w' => e = .returned (.bool (mayB r s a t sf iv ki bn ab)) ∧ Below w.heap.size w w' := by
  obtain ⟨o0, o1, o2, o3, o4⟩ := hO
  simp only [decide_true, show decide ((0 : Nat) = 0) = true from rfl, show decide ((0 : Nat) = 1) = false from rfl, show decide ((0 : Nat) = 2) = false from rfl, show decide ((0 : Nat) = 3) = false from rfl, show decide ((0 : Nat) = 4) = false from rfl] at o0 o1 o2 o3 o4
  cases sf with
  | false =>
    have HF := hidp (show (mayB r s a t false iv ki bn ab) = false from by unfold mayB; simp [o0, o1, o2, o3, o4])
    go_enter Tryz.func92, Tryz.ntmps92
    go_wp2_with (first | (refine Rt.wpL_skip _ _ rfl rfl ?_) | (refine Rt.wpL_skipN _ _ rfl rfl ?_) | (refine wpL_boxT 109 rfl _ rfl [.string r, .string s, .string a, .string t, .bool false, .bool iv, .bool ki, .bool bn, .bool ab] rfl ?_; intro b1 w1 n1; have HB := hidp n1.below; have HA := hidp n1.arr; clear n1; obtain ⟨x0, x1, x2, x3, x4, x5, x6, x7, x8⟩ := arr9 HA.out) | (first | (refine wpL_getM rfl (.tmp 1) rfl b1 [.string r, .string s, .string a, .string t, .bool false, .bool iv, .bool ki, .bool bn, .bool ab] rfl rfl HA.out ?_) | (go_at_call 116; refine (byM_any _ r s a t _ _ _ _ _).mono ?_; rintro e w1 ⟨rfl, hb⟩; clear x0 x1 x2 x3 x4 x5 x6 x7 x8; replace HB := hidp (HB.out.trans (hb.mono HB.out.size)); replace HA := hidp (HA.out.below hb HA.out.lt); clear hb; obtain ⟨x0, x1, x2, x3, x4, x5, x6, x7, x8⟩ := arr9 HA.out) | (go_at_call 115; refine (ent_any _ r s a t _ _ _ _ _).mono ?_; rintro e w1 ⟨rfl, hb⟩; clear x0 x1 x2 x3 x4 x5 x6 x7 x8; replace HB := hidp (HB.out.trans (hb.mono HB.out.size)); replace HA := hidp (HA.out.below hb HA.out.lt); clear hb; obtain ⟨x0, x1, x2, x3, x4, x5, x6, x7, x8⟩ := arr9 HA.out) | (go_at_call 117; refine (conc_any _ r s a t _ _ _ _ _).mono ?_; rintro e w1 ⟨rfl, hb⟩; clear x0 x1 x2 x3 x4 x5 x6 x7 x8; replace HB := hidp (HB.out.trans (hb.mono HB.out.size)); replace HA := hidp (HA.out.below hb HA.out.lt); clear hb; obtain ⟨x0, x1, x2, x3, x4, x5, x6, x7, x8⟩ := arr9 HA.out) | (go_at_call 118; refine (rem_any _ r s a t _ _ _ _ _).mono ?_; rintro e w1 ⟨rfl, hb⟩; clear x0 x1 x2 x3 x4 x5 x6 x7 x8; replace HB := hidp (HB.out.trans (hb.mono HB.out.size)); replace HA := hidp (HA.out.below hb HA.out.lt); clear hb; obtain ⟨x0, x1, x2, x3, x4, x5, x6, x7, x8⟩ := arr9 HA.out) | (go_at_call 90; refine (oneOf_any _ _ [(⟨#[106, 111, 105, 110]⟩ : ByteArray), (⟨#[98, 97, 110]⟩ : ByteArray)] _ (ws2 _ (⟨#[106, 111, 105, 110]⟩ : ByteArray) (⟨#[98, 97, 110]⟩ : ByteArray) 9) (by simp)).mono ?_; rintro e w2 ⟨rfl, rfl⟩; replace HB := hidp (HB.out.alloc HB.out.size (.cells #[.string (⟨#[106, 111, 105, 110]⟩ : ByteArray), .string (⟨#[98, 97, 110]⟩ : ByteArray)] 9)); replace HA := hidp (HA.out.alloc (.cells #[.string (⟨#[106, 111, 105, 110]⟩ : ByteArray), .string (⟨#[98, 97, 110]⟩ : ByteArray)] 9)); clear x0 x1 x2 x3 x4 x5 x6 x7 x8; obtain ⟨x0, x1, x2, x3, x4, x5, x6, x7, x8⟩ := arr9 HA.out)))
    go_ret
    exact ⟨by rw [HF.out]; rfl, HB.out⟩
  | true =>
    cases q1 : (entB r a) with
    | false =>
      have HF := hidp (show (mayB r s a t true iv ki bn ab) = false from by unfold mayB; simp [o0, o1, o2, o3, o4, q1])
      go_enter Tryz.func92, Tryz.ntmps92
      go_wp2_with (first | (refine Rt.wpL_skip _ _ rfl rfl ?_) | (refine Rt.wpL_skipN _ _ rfl rfl ?_) | (refine wpL_boxT 109 rfl _ rfl [.string r, .string s, .string a, .string t, .bool true, .bool iv, .bool ki, .bool bn, .bool ab] rfl ?_; intro b1 w1 n1; have HB := hidp n1.below; have HA := hidp n1.arr; clear n1; obtain ⟨x0, x1, x2, x3, x4, x5, x6, x7, x8⟩ := arr9 HA.out) | (first | (refine wpL_getM rfl (.tmp 1) rfl b1 [.string r, .string s, .string a, .string t, .bool true, .bool iv, .bool ki, .bool bn, .bool ab] rfl rfl HA.out ?_) | (go_at_call 116; refine (byM_any _ r s a t _ _ _ _ _).mono ?_; rintro e w1 ⟨rfl, hb⟩; clear x0 x1 x2 x3 x4 x5 x6 x7 x8; replace HB := hidp (HB.out.trans (hb.mono HB.out.size)); replace HA := hidp (HA.out.below hb HA.out.lt); clear hb; obtain ⟨x0, x1, x2, x3, x4, x5, x6, x7, x8⟩ := arr9 HA.out) | (go_at_call 115; refine (ent_any _ r s a t _ _ _ _ _).mono ?_; rintro e w1 ⟨rfl, hb⟩; clear x0 x1 x2 x3 x4 x5 x6 x7 x8; replace HB := hidp (HB.out.trans (hb.mono HB.out.size)); replace HA := hidp (HA.out.below hb HA.out.lt); clear hb; obtain ⟨x0, x1, x2, x3, x4, x5, x6, x7, x8⟩ := arr9 HA.out) | (go_at_call 117; refine (conc_any _ r s a t _ _ _ _ _).mono ?_; rintro e w1 ⟨rfl, hb⟩; clear x0 x1 x2 x3 x4 x5 x6 x7 x8; replace HB := hidp (HB.out.trans (hb.mono HB.out.size)); replace HA := hidp (HA.out.below hb HA.out.lt); clear hb; obtain ⟨x0, x1, x2, x3, x4, x5, x6, x7, x8⟩ := arr9 HA.out) | (go_at_call 118; refine (rem_any _ r s a t _ _ _ _ _).mono ?_; rintro e w1 ⟨rfl, hb⟩; clear x0 x1 x2 x3 x4 x5 x6 x7 x8; replace HB := hidp (HB.out.trans (hb.mono HB.out.size)); replace HA := hidp (HA.out.below hb HA.out.lt); clear hb; obtain ⟨x0, x1, x2, x3, x4, x5, x6, x7, x8⟩ := arr9 HA.out) | (go_at_call 90; refine (oneOf_any _ _ [(⟨#[106, 111, 105, 110]⟩ : ByteArray), (⟨#[98, 97, 110]⟩ : ByteArray)] _ (ws2 _ (⟨#[106, 111, 105, 110]⟩ : ByteArray) (⟨#[98, 97, 110]⟩ : ByteArray) 9) (by simp)).mono ?_; rintro e w2 ⟨rfl, rfl⟩; replace HB := hidp (HB.out.alloc HB.out.size (.cells #[.string (⟨#[106, 111, 105, 110]⟩ : ByteArray), .string (⟨#[98, 97, 110]⟩ : ByteArray)] 9)); replace HA := hidp (HA.out.alloc (.cells #[.string (⟨#[106, 111, 105, 110]⟩ : ByteArray), .string (⟨#[98, 97, 110]⟩ : ByteArray)] 9)); clear x0 x1 x2 x3 x4 x5 x6 x7 x8; obtain ⟨x0, x1, x2, x3, x4, x5, x6, x7, x8⟩ := arr9 HA.out)))
      go_ret
      exact ⟨by rw [HF.out]; rfl, HB.out⟩
    | true =>
      have HF := hidp (show (mayB r s a t true iv ki bn ab) = true from by unfold mayB; simp [o0, o1, o2, o3, o4, q1])
      go_enter Tryz.func92, Tryz.ntmps92
      go_wp2_with (first | (refine Rt.wpL_skip _ _ rfl rfl ?_) | (refine Rt.wpL_skipN _ _ rfl rfl ?_) | (refine wpL_boxT 109 rfl _ rfl [.string r, .string s, .string a, .string t, .bool true, .bool iv, .bool ki, .bool bn, .bool ab] rfl ?_; intro b1 w1 n1; have HB := hidp n1.below; have HA := hidp n1.arr; clear n1; obtain ⟨x0, x1, x2, x3, x4, x5, x6, x7, x8⟩ := arr9 HA.out) | (first | (refine wpL_getM rfl (.tmp 1) rfl b1 [.string r, .string s, .string a, .string t, .bool true, .bool iv, .bool ki, .bool bn, .bool ab] rfl rfl HA.out ?_) | (go_at_call 116; refine (byM_any _ r s a t _ _ _ _ _).mono ?_; rintro e w1 ⟨rfl, hb⟩; clear x0 x1 x2 x3 x4 x5 x6 x7 x8; replace HB := hidp (HB.out.trans (hb.mono HB.out.size)); replace HA := hidp (HA.out.below hb HA.out.lt); clear hb; obtain ⟨x0, x1, x2, x3, x4, x5, x6, x7, x8⟩ := arr9 HA.out) | (go_at_call 115; refine (ent_any _ r s a t _ _ _ _ _).mono ?_; rintro e w1 ⟨rfl, hb⟩; clear x0 x1 x2 x3 x4 x5 x6 x7 x8; replace HB := hidp (HB.out.trans (hb.mono HB.out.size)); replace HA := hidp (HA.out.below hb HA.out.lt); clear hb; obtain ⟨x0, x1, x2, x3, x4, x5, x6, x7, x8⟩ := arr9 HA.out) | (go_at_call 117; refine (conc_any _ r s a t _ _ _ _ _).mono ?_; rintro e w1 ⟨rfl, hb⟩; clear x0 x1 x2 x3 x4 x5 x6 x7 x8; replace HB := hidp (HB.out.trans (hb.mono HB.out.size)); replace HA := hidp (HA.out.below hb HA.out.lt); clear hb; obtain ⟨x0, x1, x2, x3, x4, x5, x6, x7, x8⟩ := arr9 HA.out) | (go_at_call 118; refine (rem_any _ r s a t _ _ _ _ _).mono ?_; rintro e w1 ⟨rfl, hb⟩; clear x0 x1 x2 x3 x4 x5 x6 x7 x8; replace HB := hidp (HB.out.trans (hb.mono HB.out.size)); replace HA := hidp (HA.out.below hb HA.out.lt); clear hb; obtain ⟨x0, x1, x2, x3, x4, x5, x6, x7, x8⟩ := arr9 HA.out) | (go_at_call 90; refine (oneOf_any _ _ [(⟨#[106, 111, 105, 110]⟩ : ByteArray), (⟨#[98, 97, 110]⟩ : ByteArray)] _ (ws2 _ (⟨#[106, 111, 105, 110]⟩ : ByteArray) (⟨#[98, 97, 110]⟩ : ByteArray) 9) (by simp)).mono ?_; rintro e w2 ⟨rfl, rfl⟩; replace HB := hidp (HB.out.alloc HB.out.size (.cells #[.string (⟨#[106, 111, 105, 110]⟩ : ByteArray), .string (⟨#[98, 97, 110]⟩ : ByteArray)] 9)); replace HA := hidp (HA.out.alloc (.cells #[.string (⟨#[106, 111, 105, 110]⟩ : ByteArray), .string (⟨#[98, 97, 110]⟩ : ByteArray)] 9)); clear x0 x1 x2 x3 x4 x5 x6 x7 x8; obtain ⟨x0, x1, x2, x3, x4, x5, x6, x7, x8⟩ := arr9 HA.out)))
      go_ret
      exact ⟨by rw [HF.out]; rfl, HB.out⟩
set_option maxHeartbeats 16000000 in
theorem may_1 (w : World) (r s a t : ByteArray) (sf iv ki bn ab : Bool) (hO : One t 1) :
    Calls Tryz.prog 92 #[.agg #[.string r, .string s, .string a, .string t, .bool sf, .bool iv, .bool ki, .bool bn, .bool ab]] w fun e w' => e = .returned (.bool (mayB r s a t sf iv ki bn ab)) ∧ Below w.heap.size w w' := by
  obtain ⟨o0, o1, o2, o3, o4⟩ := hO
  simp only [decide_true, show decide ((1 : Nat) = 0) = false from rfl, show decide ((1 : Nat) = 1) = true from rfl, show decide ((1 : Nat) = 2) = false from rfl, show decide ((1 : Nat) = 3) = false from rfl, show decide ((1 : Nat) = 4) = false from rfl] at o0 o1 o2 o3 o4
  cases q0 : (byB sf s) with
  | false =>
    have HF := hidp (show (mayB r s a t sf iv ki bn ab) = false from by unfold mayB; simp [o0, o1, o2, o3, o4, q0])
    go_enter Tryz.func92, Tryz.ntmps92
    go_wp2_with (first | (refine Rt.wpL_skip _ _ rfl rfl ?_) | (refine Rt.wpL_skipN _ _ rfl rfl ?_) | (refine wpL_boxT 109 rfl _ rfl [.string r, .string s, .string a, .string t, .bool sf, .bool iv, .bool ki, .bool bn, .bool ab] rfl ?_; intro b1 w1 n1; have HB := hidp n1.below; have HA := hidp n1.arr; clear n1; obtain ⟨x0, x1, x2, x3, x4, x5, x6, x7, x8⟩ := arr9 HA.out) | (first | (refine wpL_getM rfl (.tmp 1) rfl b1 [.string r, .string s, .string a, .string t, .bool sf, .bool iv, .bool ki, .bool bn, .bool ab] rfl rfl HA.out ?_) | (go_at_call 116; refine (byM_any _ r s a t _ _ _ _ _).mono ?_; rintro e w1 ⟨rfl, hb⟩; clear x0 x1 x2 x3 x4 x5 x6 x7 x8; replace HB := hidp (HB.out.trans (hb.mono HB.out.size)); replace HA := hidp (HA.out.below hb HA.out.lt); clear hb; obtain ⟨x0, x1, x2, x3, x4, x5, x6, x7, x8⟩ := arr9 HA.out) | (go_at_call 115; refine (ent_any _ r s a t _ _ _ _ _).mono ?_; rintro e w1 ⟨rfl, hb⟩; clear x0 x1 x2 x3 x4 x5 x6 x7 x8; replace HB := hidp (HB.out.trans (hb.mono HB.out.size)); replace HA := hidp (HA.out.below hb HA.out.lt); clear hb; obtain ⟨x0, x1, x2, x3, x4, x5, x6, x7, x8⟩ := arr9 HA.out) | (go_at_call 117; refine (conc_any _ r s a t _ _ _ _ _).mono ?_; rintro e w1 ⟨rfl, hb⟩; clear x0 x1 x2 x3 x4 x5 x6 x7 x8; replace HB := hidp (HB.out.trans (hb.mono HB.out.size)); replace HA := hidp (HA.out.below hb HA.out.lt); clear hb; obtain ⟨x0, x1, x2, x3, x4, x5, x6, x7, x8⟩ := arr9 HA.out) | (go_at_call 118; refine (rem_any _ r s a t _ _ _ _ _).mono ?_; rintro e w1 ⟨rfl, hb⟩; clear x0 x1 x2 x3 x4 x5 x6 x7 x8; replace HB := hidp (HB.out.trans (hb.mono HB.out.size)); replace HA := hidp (HA.out.below hb HA.out.lt); clear hb; obtain ⟨x0, x1, x2, x3, x4, x5, x6, x7, x8⟩ := arr9 HA.out) | (go_at_call 90; refine (oneOf_any _ _ [(⟨#[106, 111, 105, 110]⟩ : ByteArray), (⟨#[98, 97, 110]⟩ : ByteArray)] _ (ws2 _ (⟨#[106, 111, 105, 110]⟩ : ByteArray) (⟨#[98, 97, 110]⟩ : ByteArray) 9) (by simp)).mono ?_; rintro e w2 ⟨rfl, rfl⟩; replace HB := hidp (HB.out.alloc HB.out.size (.cells #[.string (⟨#[106, 111, 105, 110]⟩ : ByteArray), .string (⟨#[98, 97, 110]⟩ : ByteArray)] 9)); replace HA := hidp (HA.out.alloc (.cells #[.string (⟨#[106, 111, 105, 110]⟩ : ByteArray), .string (⟨#[98, 97, 110]⟩ : ByteArray)] 9)); clear x0 x1 x2 x3 x4 x5 x6 x7 x8; obtain ⟨x0, x1, x2, x3, x4, x5, x6, x7, x8⟩ := arr9 HA.out)))
    go_ret
    exact ⟨by rw [HF.out]; rfl, HB.out⟩
  | true =>
    cases q1 : (anyW [(⟨#[106, 111, 105, 110]⟩ : ByteArray), (⟨#[98, 97, 110]⟩ : ByteArray)] a) with
    | false =>
      cases iv with
      | false =>
        have HF := hidp (show (mayB r s a t sf false ki bn ab) = false from by unfold mayB; simp [o0, o1, o2, o3, o4, q0, q1])
        go_enter Tryz.func92, Tryz.ntmps92
        go_wp2_with (first | (refine Rt.wpL_skip _ _ rfl rfl ?_) | (refine Rt.wpL_skipN _ _ rfl rfl ?_) | (refine wpL_boxT 109 rfl _ rfl [.string r, .string s, .string a, .string t, .bool sf, .bool false, .bool ki, .bool bn, .bool ab] rfl ?_; intro b1 w1 n1; have HB := hidp n1.below; have HA := hidp n1.arr; clear n1; obtain ⟨x0, x1, x2, x3, x4, x5, x6, x7, x8⟩ := arr9 HA.out) | (first | (refine wpL_getM rfl (.tmp 1) rfl b1 [.string r, .string s, .string a, .string t, .bool sf, .bool false, .bool ki, .bool bn, .bool ab] rfl rfl HA.out ?_) | (go_at_call 116; refine (byM_any _ r s a t _ _ _ _ _).mono ?_; rintro e w1 ⟨rfl, hb⟩; clear x0 x1 x2 x3 x4 x5 x6 x7 x8; replace HB := hidp (HB.out.trans (hb.mono HB.out.size)); replace HA := hidp (HA.out.below hb HA.out.lt); clear hb; obtain ⟨x0, x1, x2, x3, x4, x5, x6, x7, x8⟩ := arr9 HA.out) | (go_at_call 115; refine (ent_any _ r s a t _ _ _ _ _).mono ?_; rintro e w1 ⟨rfl, hb⟩; clear x0 x1 x2 x3 x4 x5 x6 x7 x8; replace HB := hidp (HB.out.trans (hb.mono HB.out.size)); replace HA := hidp (HA.out.below hb HA.out.lt); clear hb; obtain ⟨x0, x1, x2, x3, x4, x5, x6, x7, x8⟩ := arr9 HA.out) | (go_at_call 117; refine (conc_any _ r s a t _ _ _ _ _).mono ?_; rintro e w1 ⟨rfl, hb⟩; clear x0 x1 x2 x3 x4 x5 x6 x7 x8; replace HB := hidp (HB.out.trans (hb.mono HB.out.size)); replace HA := hidp (HA.out.below hb HA.out.lt); clear hb; obtain ⟨x0, x1, x2, x3, x4, x5, x6, x7, x8⟩ := arr9 HA.out) | (go_at_call 118; refine (rem_any _ r s a t _ _ _ _ _).mono ?_; rintro e w1 ⟨rfl, hb⟩; clear x0 x1 x2 x3 x4 x5 x6 x7 x8; replace HB := hidp (HB.out.trans (hb.mono HB.out.size)); replace HA := hidp (HA.out.below hb HA.out.lt); clear hb; obtain ⟨x0, x1, x2, x3, x4, x5, x6, x7, x8⟩ := arr9 HA.out) | (go_at_call 90; refine (oneOf_any _ _ [(⟨#[106, 111, 105, 110]⟩ : ByteArray), (⟨#[98, 97, 110]⟩ : ByteArray)] _ (ws2 _ (⟨#[106, 111, 105, 110]⟩ : ByteArray) (⟨#[98, 97, 110]⟩ : ByteArray) 9) (by simp)).mono ?_; rintro e w2 ⟨rfl, rfl⟩; replace HB := hidp (HB.out.alloc HB.out.size (.cells #[.string (⟨#[106, 111, 105, 110]⟩ : ByteArray), .string (⟨#[98, 97, 110]⟩ : ByteArray)] 9)); replace HA := hidp (HA.out.alloc (.cells #[.string (⟨#[106, 111, 105, 110]⟩ : ByteArray), .string (⟨#[98, 97, 110]⟩ : ByteArray)] 9)); clear x0 x1 x2 x3 x4 x5 x6 x7 x8; obtain ⟨x0, x1, x2, x3, x4, x5, x6, x7, x8⟩ := arr9 HA.out)))
        go_ret
        exact ⟨by rw [HF.out]; rfl, HB.out⟩
      | true =>
        have HF := hidp (show (mayB r s a t sf true ki bn ab) = true from by unfold mayB; simp [o0, o1, o2, o3, o4, q0, q1])
        go_enter Tryz.func92, Tryz.ntmps92
        go_wp2_with (first | (refine Rt.wpL_skip _ _ rfl rfl ?_) | (refine Rt.wpL_skipN _ _ rfl rfl ?_) | (refine wpL_boxT 109 rfl _ rfl [.string r, .string s, .string a, .string t, .bool sf, .bool true, .bool ki, .bool bn, .bool ab] rfl ?_; intro b1 w1 n1; have HB := hidp n1.below; have HA := hidp n1.arr; clear n1; obtain ⟨x0, x1, x2, x3, x4, x5, x6, x7, x8⟩ := arr9 HA.out) | (first | (refine wpL_getM rfl (.tmp 1) rfl b1 [.string r, .string s, .string a, .string t, .bool sf, .bool true, .bool ki, .bool bn, .bool ab] rfl rfl HA.out ?_) | (go_at_call 116; refine (byM_any _ r s a t _ _ _ _ _).mono ?_; rintro e w1 ⟨rfl, hb⟩; clear x0 x1 x2 x3 x4 x5 x6 x7 x8; replace HB := hidp (HB.out.trans (hb.mono HB.out.size)); replace HA := hidp (HA.out.below hb HA.out.lt); clear hb; obtain ⟨x0, x1, x2, x3, x4, x5, x6, x7, x8⟩ := arr9 HA.out) | (go_at_call 115; refine (ent_any _ r s a t _ _ _ _ _).mono ?_; rintro e w1 ⟨rfl, hb⟩; clear x0 x1 x2 x3 x4 x5 x6 x7 x8; replace HB := hidp (HB.out.trans (hb.mono HB.out.size)); replace HA := hidp (HA.out.below hb HA.out.lt); clear hb; obtain ⟨x0, x1, x2, x3, x4, x5, x6, x7, x8⟩ := arr9 HA.out) | (go_at_call 117; refine (conc_any _ r s a t _ _ _ _ _).mono ?_; rintro e w1 ⟨rfl, hb⟩; clear x0 x1 x2 x3 x4 x5 x6 x7 x8; replace HB := hidp (HB.out.trans (hb.mono HB.out.size)); replace HA := hidp (HA.out.below hb HA.out.lt); clear hb; obtain ⟨x0, x1, x2, x3, x4, x5, x6, x7, x8⟩ := arr9 HA.out) | (go_at_call 118; refine (rem_any _ r s a t _ _ _ _ _).mono ?_; rintro e w1 ⟨rfl, hb⟩; clear x0 x1 x2 x3 x4 x5 x6 x7 x8; replace HB := hidp (HB.out.trans (hb.mono HB.out.size)); replace HA := hidp (HA.out.below hb HA.out.lt); clear hb; obtain ⟨x0, x1, x2, x3, x4, x5, x6, x7, x8⟩ := arr9 HA.out) | (go_at_call 90; refine (oneOf_any _ _ [(⟨#[106, 111, 105, 110]⟩ : ByteArray), (⟨#[98, 97, 110]⟩ : ByteArray)] _ (ws2 _ (⟨#[106, 111, 105, 110]⟩ : ByteArray) (⟨#[98, 97, 110]⟩ : ByteArray) 9) (by simp)).mono ?_; rintro e w2 ⟨rfl, rfl⟩; replace HB := hidp (HB.out.alloc HB.out.size (.cells #[.string (⟨#[106, 111, 105, 110]⟩ : ByteArray), .string (⟨#[98, 97, 110]⟩ : ByteArray)] 9)); replace HA := hidp (HA.out.alloc (.cells #[.string (⟨#[106, 111, 105, 110]⟩ : ByteArray), .string (⟨#[98, 97, 110]⟩ : ByteArray)] 9)); clear x0 x1 x2 x3 x4 x5 x6 x7 x8; obtain ⟨x0, x1, x2, x3, x4, x5, x6, x7, x8⟩ := arr9 HA.out)))
        go_ret
        exact ⟨by rw [HF.out]; rfl, HB.out⟩
    | true =>
      have HF := hidp (show (mayB r s a t sf iv ki bn ab) = false from by unfold mayB; simp [o0, o1, o2, o3, o4, q0, q1])
      go_enter Tryz.func92, Tryz.ntmps92
      go_wp2_with (first | (refine Rt.wpL_skip _ _ rfl rfl ?_) | (refine Rt.wpL_skipN _ _ rfl rfl ?_) | (refine wpL_boxT 109 rfl _ rfl [.string r, .string s, .string a, .string t, .bool sf, .bool iv, .bool ki, .bool bn, .bool ab] rfl ?_; intro b1 w1 n1; have HB := hidp n1.below; have HA := hidp n1.arr; clear n1; obtain ⟨x0, x1, x2, x3, x4, x5, x6, x7, x8⟩ := arr9 HA.out) | (first | (refine wpL_getM rfl (.tmp 1) rfl b1 [.string r, .string s, .string a, .string t, .bool sf, .bool iv, .bool ki, .bool bn, .bool ab] rfl rfl HA.out ?_) | (go_at_call 116; refine (byM_any _ r s a t _ _ _ _ _).mono ?_; rintro e w1 ⟨rfl, hb⟩; clear x0 x1 x2 x3 x4 x5 x6 x7 x8; replace HB := hidp (HB.out.trans (hb.mono HB.out.size)); replace HA := hidp (HA.out.below hb HA.out.lt); clear hb; obtain ⟨x0, x1, x2, x3, x4, x5, x6, x7, x8⟩ := arr9 HA.out) | (go_at_call 115; refine (ent_any _ r s a t _ _ _ _ _).mono ?_; rintro e w1 ⟨rfl, hb⟩; clear x0 x1 x2 x3 x4 x5 x6 x7 x8; replace HB := hidp (HB.out.trans (hb.mono HB.out.size)); replace HA := hidp (HA.out.below hb HA.out.lt); clear hb; obtain ⟨x0, x1, x2, x3, x4, x5, x6, x7, x8⟩ := arr9 HA.out) | (go_at_call 117; refine (conc_any _ r s a t _ _ _ _ _).mono ?_; rintro e w1 ⟨rfl, hb⟩; clear x0 x1 x2 x3 x4 x5 x6 x7 x8; replace HB := hidp (HB.out.trans (hb.mono HB.out.size)); replace HA := hidp (HA.out.below hb HA.out.lt); clear hb; obtain ⟨x0, x1, x2, x3, x4, x5, x6, x7, x8⟩ := arr9 HA.out) | (go_at_call 118; refine (rem_any _ r s a t _ _ _ _ _).mono ?_; rintro e w1 ⟨rfl, hb⟩; clear x0 x1 x2 x3 x4 x5 x6 x7 x8; replace HB := hidp (HB.out.trans (hb.mono HB.out.size)); replace HA := hidp (HA.out.below hb HA.out.lt); clear hb; obtain ⟨x0, x1, x2, x3, x4, x5, x6, x7, x8⟩ := arr9 HA.out) | (go_at_call 90; refine (oneOf_any _ _ [(⟨#[106, 111, 105, 110]⟩ : ByteArray), (⟨#[98, 97, 110]⟩ : ByteArray)] _ (ws2 _ (⟨#[106, 111, 105, 110]⟩ : ByteArray) (⟨#[98, 97, 110]⟩ : ByteArray) 9) (by simp)).mono ?_; rintro e w2 ⟨rfl, rfl⟩; replace HB := hidp (HB.out.alloc HB.out.size (.cells #[.string (⟨#[106, 111, 105, 110]⟩ : ByteArray), .string (⟨#[98, 97, 110]⟩ : ByteArray)] 9)); replace HA := hidp (HA.out.alloc (.cells #[.string (⟨#[106, 111, 105, 110]⟩ : ByteArray), .string (⟨#[98, 97, 110]⟩ : ByteArray)] 9)); clear x0 x1 x2 x3 x4 x5 x6 x7 x8; obtain ⟨x0, x1, x2, x3, x4, x5, x6, x7, x8⟩ := arr9 HA.out)))
      go_ret
      exact ⟨by rw [HF.out]; rfl, HB.out⟩
set_option maxHeartbeats 16000000 in
theorem may_2 (w : World) (r s a t : ByteArray) (sf iv ki bn ab : Bool) (hO : One t 2) :
    Calls Tryz.prog 92 #[.agg #[.string r, .string s, .string a, .string t, .bool sf, .bool iv, .bool ki, .bool bn, .bool ab]] w fun e w' => e = .returned (.bool (mayB r s a t sf iv ki bn ab)) ∧ Below w.heap.size w w' := by
  obtain ⟨o0, o1, o2, o3, o4⟩ := hO
  simp only [decide_true, show decide ((2 : Nat) = 0) = false from rfl, show decide ((2 : Nat) = 1) = false from rfl, show decide ((2 : Nat) = 2) = true from rfl, show decide ((2 : Nat) = 3) = false from rfl, show decide ((2 : Nat) = 4) = false from rfl] at o0 o1 o2 o3 o4
  cases sf with
  | false =>
    cases q1 : (byB false s) with
    | false =>
      have HF := hidp (show (mayB r s a t false iv ki bn ab) = false from by unfold mayB; simp [o0, o1, o2, o3, o4, q1])
      go_enter Tryz.func92, Tryz.ntmps92
      go_wp2_with (first | (refine Rt.wpL_skip _ _ rfl rfl ?_) | (refine Rt.wpL_skipN _ _ rfl rfl ?_) | (refine wpL_boxT 109 rfl _ rfl [.string r, .string s, .string a, .string t, .bool false, .bool iv, .bool ki, .bool bn, .bool ab] rfl ?_; intro b1 w1 n1; have HB := hidp n1.below; have HA := hidp n1.arr; clear n1; obtain ⟨x0, x1, x2, x3, x4, x5, x6, x7, x8⟩ := arr9 HA.out) | (first | (refine wpL_getM rfl (.tmp 1) rfl b1 [.string r, .string s, .string a, .string t, .bool false, .bool iv, .bool ki, .bool bn, .bool ab] rfl rfl HA.out ?_) | (go_at_call 116; refine (byM_any _ r s a t _ _ _ _ _).mono ?_; rintro e w1 ⟨rfl, hb⟩; clear x0 x1 x2 x3 x4 x5 x6 x7 x8; replace HB := hidp (HB.out.trans (hb.mono HB.out.size)); replace HA := hidp (HA.out.below hb HA.out.lt); clear hb; obtain ⟨x0, x1, x2, x3, x4, x5, x6, x7, x8⟩ := arr9 HA.out) | (go_at_call 115; refine (ent_any _ r s a t _ _ _ _ _).mono ?_; rintro e w1 ⟨rfl, hb⟩; clear x0 x1 x2 x3 x4 x5 x6 x7 x8; replace HB := hidp (HB.out.trans (hb.mono HB.out.size)); replace HA := hidp (HA.out.below hb HA.out.lt); clear hb; obtain ⟨x0, x1, x2, x3, x4, x5, x6, x7, x8⟩ := arr9 HA.out) | (go_at_call 117; refine (conc_any _ r s a t _ _ _ _ _).mono ?_; rintro e w1 ⟨rfl, hb⟩; clear x0 x1 x2 x3 x4 x5 x6 x7 x8; replace HB := hidp (HB.out.trans (hb.mono HB.out.size)); replace HA := hidp (HA.out.below hb HA.out.lt); clear hb; obtain ⟨x0, x1, x2, x3, x4, x5, x6, x7, x8⟩ := arr9 HA.out) | (go_at_call 118; refine (rem_any _ r s a t _ _ _ _ _).mono ?_; rintro e w1 ⟨rfl, hb⟩; clear x0 x1 x2 x3 x4 x5 x6 x7 x8; replace HB := hidp (HB.out.trans (hb.mono HB.out.size)); replace HA := hidp (HA.out.below hb HA.out.lt); clear hb; obtain ⟨x0, x1, x2, x3, x4, x5, x6, x7, x8⟩ := arr9 HA.out) | (go_at_call 90; refine (oneOf_any _ _ [(⟨#[106, 111, 105, 110]⟩ : ByteArray), (⟨#[98, 97, 110]⟩ : ByteArray)] _ (ws2 _ (⟨#[106, 111, 105, 110]⟩ : ByteArray) (⟨#[98, 97, 110]⟩ : ByteArray) 9) (by simp)).mono ?_; rintro e w2 ⟨rfl, rfl⟩; replace HB := hidp (HB.out.alloc HB.out.size (.cells #[.string (⟨#[106, 111, 105, 110]⟩ : ByteArray), .string (⟨#[98, 97, 110]⟩ : ByteArray)] 9)); replace HA := hidp (HA.out.alloc (.cells #[.string (⟨#[106, 111, 105, 110]⟩ : ByteArray), .string (⟨#[98, 97, 110]⟩ : ByteArray)] 9)); clear x0 x1 x2 x3 x4 x5 x6 x7 x8; obtain ⟨x0, x1, x2, x3, x4, x5, x6, x7, x8⟩ := arr9 HA.out)))
      go_ret
      exact ⟨by rw [HF.out]; rfl, HB.out⟩
    | true =>
      cases ab with
      | false =>
        have HF := hidp (show (mayB r s a t false iv ki bn false) = false from by unfold mayB; simp [o0, o1, o2, o3, o4, q1])
        go_enter Tryz.func92, Tryz.ntmps92
        go_wp2_with (first | (refine Rt.wpL_skip _ _ rfl rfl ?_) | (refine Rt.wpL_skipN _ _ rfl rfl ?_) | (refine wpL_boxT 109 rfl _ rfl [.string r, .string s, .string a, .string t, .bool false, .bool iv, .bool ki, .bool bn, .bool false] rfl ?_; intro b1 w1 n1; have HB := hidp n1.below; have HA := hidp n1.arr; clear n1; obtain ⟨x0, x1, x2, x3, x4, x5, x6, x7, x8⟩ := arr9 HA.out) | (first | (refine wpL_getM rfl (.tmp 1) rfl b1 [.string r, .string s, .string a, .string t, .bool false, .bool iv, .bool ki, .bool bn, .bool false] rfl rfl HA.out ?_) | (go_at_call 116; refine (byM_any _ r s a t _ _ _ _ _).mono ?_; rintro e w1 ⟨rfl, hb⟩; clear x0 x1 x2 x3 x4 x5 x6 x7 x8; replace HB := hidp (HB.out.trans (hb.mono HB.out.size)); replace HA := hidp (HA.out.below hb HA.out.lt); clear hb; obtain ⟨x0, x1, x2, x3, x4, x5, x6, x7, x8⟩ := arr9 HA.out) | (go_at_call 115; refine (ent_any _ r s a t _ _ _ _ _).mono ?_; rintro e w1 ⟨rfl, hb⟩; clear x0 x1 x2 x3 x4 x5 x6 x7 x8; replace HB := hidp (HB.out.trans (hb.mono HB.out.size)); replace HA := hidp (HA.out.below hb HA.out.lt); clear hb; obtain ⟨x0, x1, x2, x3, x4, x5, x6, x7, x8⟩ := arr9 HA.out) | (go_at_call 117; refine (conc_any _ r s a t _ _ _ _ _).mono ?_; rintro e w1 ⟨rfl, hb⟩; clear x0 x1 x2 x3 x4 x5 x6 x7 x8; replace HB := hidp (HB.out.trans (hb.mono HB.out.size)); replace HA := hidp (HA.out.below hb HA.out.lt); clear hb; obtain ⟨x0, x1, x2, x3, x4, x5, x6, x7, x8⟩ := arr9 HA.out) | (go_at_call 118; refine (rem_any _ r s a t _ _ _ _ _).mono ?_; rintro e w1 ⟨rfl, hb⟩; clear x0 x1 x2 x3 x4 x5 x6 x7 x8; replace HB := hidp (HB.out.trans (hb.mono HB.out.size)); replace HA := hidp (HA.out.below hb HA.out.lt); clear hb; obtain ⟨x0, x1, x2, x3, x4, x5, x6, x7, x8⟩ := arr9 HA.out) | (go_at_call 90; refine (oneOf_any _ _ [(⟨#[106, 111, 105, 110]⟩ : ByteArray), (⟨#[98, 97, 110]⟩ : ByteArray)] _ (ws2 _ (⟨#[106, 111, 105, 110]⟩ : ByteArray) (⟨#[98, 97, 110]⟩ : ByteArray) 9) (by simp)).mono ?_; rintro e w2 ⟨rfl, rfl⟩; replace HB := hidp (HB.out.alloc HB.out.size (.cells #[.string (⟨#[106, 111, 105, 110]⟩ : ByteArray), .string (⟨#[98, 97, 110]⟩ : ByteArray)] 9)); replace HA := hidp (HA.out.alloc (.cells #[.string (⟨#[106, 111, 105, 110]⟩ : ByteArray), .string (⟨#[98, 97, 110]⟩ : ByteArray)] 9)); clear x0 x1 x2 x3 x4 x5 x6 x7 x8; obtain ⟨x0, x1, x2, x3, x4, x5, x6, x7, x8⟩ := arr9 HA.out)))
        go_ret
        exact ⟨by rw [HF.out]; rfl, HB.out⟩
      | true =>
        cases q3 : (remB a ki bn) with
        | false =>
          have HF := hidp (show (mayB r s a t false iv ki bn true) = false from by unfold mayB; simp [o0, o1, o2, o3, o4, q1, q3])
          go_enter Tryz.func92, Tryz.ntmps92
          go_wp2_with (first | (refine Rt.wpL_skip _ _ rfl rfl ?_) | (refine Rt.wpL_skipN _ _ rfl rfl ?_) | (refine wpL_boxT 109 rfl _ rfl [.string r, .string s, .string a, .string t, .bool false, .bool iv, .bool ki, .bool bn, .bool true] rfl ?_; intro b1 w1 n1; have HB := hidp n1.below; have HA := hidp n1.arr; clear n1; obtain ⟨x0, x1, x2, x3, x4, x5, x6, x7, x8⟩ := arr9 HA.out) | (first | (refine wpL_getM rfl (.tmp 1) rfl b1 [.string r, .string s, .string a, .string t, .bool false, .bool iv, .bool ki, .bool bn, .bool true] rfl rfl HA.out ?_) | (go_at_call 116; refine (byM_any _ r s a t _ _ _ _ _).mono ?_; rintro e w1 ⟨rfl, hb⟩; clear x0 x1 x2 x3 x4 x5 x6 x7 x8; replace HB := hidp (HB.out.trans (hb.mono HB.out.size)); replace HA := hidp (HA.out.below hb HA.out.lt); clear hb; obtain ⟨x0, x1, x2, x3, x4, x5, x6, x7, x8⟩ := arr9 HA.out) | (go_at_call 115; refine (ent_any _ r s a t _ _ _ _ _).mono ?_; rintro e w1 ⟨rfl, hb⟩; clear x0 x1 x2 x3 x4 x5 x6 x7 x8; replace HB := hidp (HB.out.trans (hb.mono HB.out.size)); replace HA := hidp (HA.out.below hb HA.out.lt); clear hb; obtain ⟨x0, x1, x2, x3, x4, x5, x6, x7, x8⟩ := arr9 HA.out) | (go_at_call 117; refine (conc_any _ r s a t _ _ _ _ _).mono ?_; rintro e w1 ⟨rfl, hb⟩; clear x0 x1 x2 x3 x4 x5 x6 x7 x8; replace HB := hidp (HB.out.trans (hb.mono HB.out.size)); replace HA := hidp (HA.out.below hb HA.out.lt); clear hb; obtain ⟨x0, x1, x2, x3, x4, x5, x6, x7, x8⟩ := arr9 HA.out) | (go_at_call 118; refine (rem_any _ r s a t _ _ _ _ _).mono ?_; rintro e w1 ⟨rfl, hb⟩; clear x0 x1 x2 x3 x4 x5 x6 x7 x8; replace HB := hidp (HB.out.trans (hb.mono HB.out.size)); replace HA := hidp (HA.out.below hb HA.out.lt); clear hb; obtain ⟨x0, x1, x2, x3, x4, x5, x6, x7, x8⟩ := arr9 HA.out) | (go_at_call 90; refine (oneOf_any _ _ [(⟨#[106, 111, 105, 110]⟩ : ByteArray), (⟨#[98, 97, 110]⟩ : ByteArray)] _ (ws2 _ (⟨#[106, 111, 105, 110]⟩ : ByteArray) (⟨#[98, 97, 110]⟩ : ByteArray) 9) (by simp)).mono ?_; rintro e w2 ⟨rfl, rfl⟩; replace HB := hidp (HB.out.alloc HB.out.size (.cells #[.string (⟨#[106, 111, 105, 110]⟩ : ByteArray), .string (⟨#[98, 97, 110]⟩ : ByteArray)] 9)); replace HA := hidp (HA.out.alloc (.cells #[.string (⟨#[106, 111, 105, 110]⟩ : ByteArray), .string (⟨#[98, 97, 110]⟩ : ByteArray)] 9)); clear x0 x1 x2 x3 x4 x5 x6 x7 x8; obtain ⟨x0, x1, x2, x3, x4, x5, x6, x7, x8⟩ := arr9 HA.out)))
          go_ret
          exact ⟨by rw [HF.out]; rfl, HB.out⟩
        | true =>
          have HF := hidp (show (mayB r s a t false iv ki bn true) = true from by unfold mayB; simp [o0, o1, o2, o3, o4, q1, q3])
          go_enter Tryz.func92, Tryz.ntmps92
          go_wp2_with (first | (refine Rt.wpL_skip _ _ rfl rfl ?_) | (refine Rt.wpL_skipN _ _ rfl rfl ?_) | (refine wpL_boxT 109 rfl _ rfl [.string r, .string s, .string a, .string t, .bool false, .bool iv, .bool ki, .bool bn, .bool true] rfl ?_; intro b1 w1 n1; have HB := hidp n1.below; have HA := hidp n1.arr; clear n1; obtain ⟨x0, x1, x2, x3, x4, x5, x6, x7, x8⟩ := arr9 HA.out) | (first | (refine wpL_getM rfl (.tmp 1) rfl b1 [.string r, .string s, .string a, .string t, .bool false, .bool iv, .bool ki, .bool bn, .bool true] rfl rfl HA.out ?_) | (go_at_call 116; refine (byM_any _ r s a t _ _ _ _ _).mono ?_; rintro e w1 ⟨rfl, hb⟩; clear x0 x1 x2 x3 x4 x5 x6 x7 x8; replace HB := hidp (HB.out.trans (hb.mono HB.out.size)); replace HA := hidp (HA.out.below hb HA.out.lt); clear hb; obtain ⟨x0, x1, x2, x3, x4, x5, x6, x7, x8⟩ := arr9 HA.out) | (go_at_call 115; refine (ent_any _ r s a t _ _ _ _ _).mono ?_; rintro e w1 ⟨rfl, hb⟩; clear x0 x1 x2 x3 x4 x5 x6 x7 x8; replace HB := hidp (HB.out.trans (hb.mono HB.out.size)); replace HA := hidp (HA.out.below hb HA.out.lt); clear hb; obtain ⟨x0, x1, x2, x3, x4, x5, x6, x7, x8⟩ := arr9 HA.out) | (go_at_call 117; refine (conc_any _ r s a t _ _ _ _ _).mono ?_; rintro e w1 ⟨rfl, hb⟩; clear x0 x1 x2 x3 x4 x5 x6 x7 x8; replace HB := hidp (HB.out.trans (hb.mono HB.out.size)); replace HA := hidp (HA.out.below hb HA.out.lt); clear hb; obtain ⟨x0, x1, x2, x3, x4, x5, x6, x7, x8⟩ := arr9 HA.out) | (go_at_call 118; refine (rem_any _ r s a t _ _ _ _ _).mono ?_; rintro e w1 ⟨rfl, hb⟩; clear x0 x1 x2 x3 x4 x5 x6 x7 x8; replace HB := hidp (HB.out.trans (hb.mono HB.out.size)); replace HA := hidp (HA.out.below hb HA.out.lt); clear hb; obtain ⟨x0, x1, x2, x3, x4, x5, x6, x7, x8⟩ := arr9 HA.out) | (go_at_call 90; refine (oneOf_any _ _ [(⟨#[106, 111, 105, 110]⟩ : ByteArray), (⟨#[98, 97, 110]⟩ : ByteArray)] _ (ws2 _ (⟨#[106, 111, 105, 110]⟩ : ByteArray) (⟨#[98, 97, 110]⟩ : ByteArray) 9) (by simp)).mono ?_; rintro e w2 ⟨rfl, rfl⟩; replace HB := hidp (HB.out.alloc HB.out.size (.cells #[.string (⟨#[106, 111, 105, 110]⟩ : ByteArray), .string (⟨#[98, 97, 110]⟩ : ByteArray)] 9)); replace HA := hidp (HA.out.alloc (.cells #[.string (⟨#[106, 111, 105, 110]⟩ : ByteArray), .string (⟨#[98, 97, 110]⟩ : ByteArray)] 9)); clear x0 x1 x2 x3 x4 x5 x6 x7 x8; obtain ⟨x0, x1, x2, x3, x4, x5, x6, x7, x8⟩ := arr9 HA.out)))
          go_ret
          exact ⟨by rw [HF.out]; rfl, HB.out⟩
  | true =>
    cases q1 : (inB a) with
    | false =>
      cases q2 : (byB true s) with
      | false =>
        have HF := hidp (show (mayB r s a t true iv ki bn ab) = false from by unfold mayB; simp [o0, o1, o2, o3, o4, q1, q2])
        go_enter Tryz.func92, Tryz.ntmps92
        go_wp2_with (first | (refine Rt.wpL_skip _ _ rfl rfl ?_) | (refine Rt.wpL_skipN _ _ rfl rfl ?_) | (refine wpL_boxT 109 rfl _ rfl [.string r, .string s, .string a, .string t, .bool true, .bool iv, .bool ki, .bool bn, .bool ab] rfl ?_; intro b1 w1 n1; have HB := hidp n1.below; have HA := hidp n1.arr; clear n1; obtain ⟨x0, x1, x2, x3, x4, x5, x6, x7, x8⟩ := arr9 HA.out) | (first | (refine wpL_getM rfl (.tmp 1) rfl b1 [.string r, .string s, .string a, .string t, .bool true, .bool iv, .bool ki, .bool bn, .bool ab] rfl rfl HA.out ?_) | (go_at_call 116; refine (byM_any _ r s a t _ _ _ _ _).mono ?_; rintro e w1 ⟨rfl, hb⟩; clear x0 x1 x2 x3 x4 x5 x6 x7 x8; replace HB := hidp (HB.out.trans (hb.mono HB.out.size)); replace HA := hidp (HA.out.below hb HA.out.lt); clear hb; obtain ⟨x0, x1, x2, x3, x4, x5, x6, x7, x8⟩ := arr9 HA.out) | (go_at_call 115; refine (ent_any _ r s a t _ _ _ _ _).mono ?_; rintro e w1 ⟨rfl, hb⟩; clear x0 x1 x2 x3 x4 x5 x6 x7 x8; replace HB := hidp (HB.out.trans (hb.mono HB.out.size)); replace HA := hidp (HA.out.below hb HA.out.lt); clear hb; obtain ⟨x0, x1, x2, x3, x4, x5, x6, x7, x8⟩ := arr9 HA.out) | (go_at_call 117; refine (conc_any _ r s a t _ _ _ _ _).mono ?_; rintro e w1 ⟨rfl, hb⟩; clear x0 x1 x2 x3 x4 x5 x6 x7 x8; replace HB := hidp (HB.out.trans (hb.mono HB.out.size)); replace HA := hidp (HA.out.below hb HA.out.lt); clear hb; obtain ⟨x0, x1, x2, x3, x4, x5, x6, x7, x8⟩ := arr9 HA.out) | (go_at_call 118; refine (rem_any _ r s a t _ _ _ _ _).mono ?_; rintro e w1 ⟨rfl, hb⟩; clear x0 x1 x2 x3 x4 x5 x6 x7 x8; replace HB := hidp (HB.out.trans (hb.mono HB.out.size)); replace HA := hidp (HA.out.below hb HA.out.lt); clear hb; obtain ⟨x0, x1, x2, x3, x4, x5, x6, x7, x8⟩ := arr9 HA.out) | (go_at_call 90; refine (oneOf_any _ _ [(⟨#[106, 111, 105, 110]⟩ : ByteArray), (⟨#[98, 97, 110]⟩ : ByteArray)] _ (ws2 _ (⟨#[106, 111, 105, 110]⟩ : ByteArray) (⟨#[98, 97, 110]⟩ : ByteArray) 9) (by simp)).mono ?_; rintro e w2 ⟨rfl, rfl⟩; replace HB := hidp (HB.out.alloc HB.out.size (.cells #[.string (⟨#[106, 111, 105, 110]⟩ : ByteArray), .string (⟨#[98, 97, 110]⟩ : ByteArray)] 9)); replace HA := hidp (HA.out.alloc (.cells #[.string (⟨#[106, 111, 105, 110]⟩ : ByteArray), .string (⟨#[98, 97, 110]⟩ : ByteArray)] 9)); clear x0 x1 x2 x3 x4 x5 x6 x7 x8; obtain ⟨x0, x1, x2, x3, x4, x5, x6, x7, x8⟩ := arr9 HA.out)))
        go_ret
        exact ⟨by rw [HF.out]; rfl, HB.out⟩
      | true =>
        simp [byB] at q2
    | true =>
      have HF := hidp (show (mayB r s a t true iv ki bn ab) = true from by unfold mayB; simp [o0, o1, o2, o3, o4, q1])
      go_enter Tryz.func92, Tryz.ntmps92
      go_wp2_with (first | (refine wpL_boxT 109 rfl _ rfl [.string r, .string s, .string a, .string t, .bool true, .bool iv, .bool ki, .bool bn, .bool ab] rfl ?_; intro b1 w1 n1; have HB := hidp n1.below; have HA := hidp n1.arr; clear n1; obtain ⟨x0, x1, x2, x3, x4, x5, x6, x7, x8⟩ := arr9 HA.out) | (refine wpL_getM rfl (.tmp 1) rfl b1 [.string r, .string s, .string a, .string t, .bool true, .bool iv, .bool ki, .bool bn, .bool ab] rfl rfl HA.out ?_) | (go_at_call 117; refine (conc_any _ r s a t _ _ _ _ _).mono ?_; rintro e w1 ⟨rfl, hb⟩; clear x0 x1 x2 x3 x4 x5 x6 x7 x8; replace HB := hidp (HB.out.trans (hb.mono HB.out.size)); replace HA := hidp (HA.out.below hb HA.out.lt); clear hb; obtain ⟨x0, x1, x2, x3, x4, x5, x6, x7, x8⟩ := arr9 HA.out; go_wp2_with fail))
      go_ret
      exact ⟨by rw [HF.out]; rfl, HB.out⟩
set_option maxHeartbeats 16000000 in
theorem may_3 (w : World) (r s a t : ByteArray) (sf iv ki bn ab : Bool) (hO : One t 3) :
    Calls Tryz.prog 92 #[.agg #[.string r, .string s, .string a, .string t, .bool sf, .bool iv, .bool ki, .bool bn, .bool ab]] w fun e w' => e = .returned (.bool (mayB r s a t sf iv ki bn ab)) ∧ Below w.heap.size w w' := by
  obtain ⟨o0, o1, o2, o3, o4⟩ := hO
  simp only [decide_true, show decide ((3 : Nat) = 0) = false from rfl, show decide ((3 : Nat) = 1) = false from rfl, show decide ((3 : Nat) = 2) = false from rfl, show decide ((3 : Nat) = 3) = true from rfl, show decide ((3 : Nat) = 4) = false from rfl] at o0 o1 o2 o3 o4
  cases q0 : (byB sf s) with
  | false =>
    have HF := hidp (show (mayB r s a t sf iv ki bn ab) = false from by unfold mayB; simp [o0, o1, o2, o3, o4, q0])
    go_enter Tryz.func92, Tryz.ntmps92
    go_wp2_with (first | (refine Rt.wpL_skip _ _ rfl rfl ?_) | (refine Rt.wpL_skipN _ _ rfl rfl ?_) | (refine wpL_boxT 109 rfl _ rfl [.string r, .string s, .string a, .string t, .bool sf, .bool iv, .bool ki, .bool bn, .bool ab] rfl ?_; intro b1 w1 n1; have HB := hidp n1.below; have HA := hidp n1.arr; clear n1; obtain ⟨x0, x1, x2, x3, x4, x5, x6, x7, x8⟩ := arr9 HA.out) | (first | (refine wpL_getM rfl (.tmp 1) rfl b1 [.string r, .string s, .string a, .string t, .bool sf, .bool iv, .bool ki, .bool bn, .bool ab] rfl rfl HA.out ?_) | (go_at_call 116; refine (byM_any _ r s a t _ _ _ _ _).mono ?_; rintro e w1 ⟨rfl, hb⟩; clear x0 x1 x2 x3 x4 x5 x6 x7 x8; replace HB := hidp (HB.out.trans (hb.mono HB.out.size)); replace HA := hidp (HA.out.below hb HA.out.lt); clear hb; obtain ⟨x0, x1, x2, x3, x4, x5, x6, x7, x8⟩ := arr9 HA.out) | (go_at_call 115; refine (ent_any _ r s a t _ _ _ _ _).mono ?_; rintro e w1 ⟨rfl, hb⟩; clear x0 x1 x2 x3 x4 x5 x6 x7 x8; replace HB := hidp (HB.out.trans (hb.mono HB.out.size)); replace HA := hidp (HA.out.below hb HA.out.lt); clear hb; obtain ⟨x0, x1, x2, x3, x4, x5, x6, x7, x8⟩ := arr9 HA.out) | (go_at_call 117; refine (conc_any _ r s a t _ _ _ _ _).mono ?_; rintro e w1 ⟨rfl, hb⟩; clear x0 x1 x2 x3 x4 x5 x6 x7 x8; replace HB := hidp (HB.out.trans (hb.mono HB.out.size)); replace HA := hidp (HA.out.below hb HA.out.lt); clear hb; obtain ⟨x0, x1, x2, x3, x4, x5, x6, x7, x8⟩ := arr9 HA.out) | (go_at_call 118; refine (rem_any _ r s a t _ _ _ _ _).mono ?_; rintro e w1 ⟨rfl, hb⟩; clear x0 x1 x2 x3 x4 x5 x6 x7 x8; replace HB := hidp (HB.out.trans (hb.mono HB.out.size)); replace HA := hidp (HA.out.below hb HA.out.lt); clear hb; obtain ⟨x0, x1, x2, x3, x4, x5, x6, x7, x8⟩ := arr9 HA.out) | (go_at_call 90; refine (oneOf_any _ _ [(⟨#[106, 111, 105, 110]⟩ : ByteArray), (⟨#[98, 97, 110]⟩ : ByteArray)] _ (ws2 _ (⟨#[106, 111, 105, 110]⟩ : ByteArray) (⟨#[98, 97, 110]⟩ : ByteArray) 9) (by simp)).mono ?_; rintro e w2 ⟨rfl, rfl⟩; replace HB := hidp (HB.out.alloc HB.out.size (.cells #[.string (⟨#[106, 111, 105, 110]⟩ : ByteArray), .string (⟨#[98, 97, 110]⟩ : ByteArray)] 9)); replace HA := hidp (HA.out.alloc (.cells #[.string (⟨#[106, 111, 105, 110]⟩ : ByteArray), .string (⟨#[98, 97, 110]⟩ : ByteArray)] 9)); clear x0 x1 x2 x3 x4 x5 x6 x7 x8; obtain ⟨x0, x1, x2, x3, x4, x5, x6, x7, x8⟩ := arr9 HA.out)))
    go_ret
    exact ⟨by rw [HF.out]; rfl, HB.out⟩
  | true =>
    cases ab with
    | false =>
      have HF := hidp (show (mayB r s a t sf iv ki bn false) = false from by unfold mayB; simp [o0, o1, o2, o3, o4, q0])
      go_enter Tryz.func92, Tryz.ntmps92
      go_wp2_with (first | (refine Rt.wpL_skip _ _ rfl rfl ?_) | (refine Rt.wpL_skipN _ _ rfl rfl ?_) | (refine wpL_boxT 109 rfl _ rfl [.string r, .string s, .string a, .string t, .bool sf, .bool iv, .bool ki, .bool bn, .bool false] rfl ?_; intro b1 w1 n1; have HB := hidp n1.below; have HA := hidp n1.arr; clear n1; obtain ⟨x0, x1, x2, x3, x4, x5, x6, x7, x8⟩ := arr9 HA.out) | (first | (refine wpL_getM rfl (.tmp 1) rfl b1 [.string r, .string s, .string a, .string t, .bool sf, .bool iv, .bool ki, .bool bn, .bool false] rfl rfl HA.out ?_) | (go_at_call 116; refine (byM_any _ r s a t _ _ _ _ _).mono ?_; rintro e w1 ⟨rfl, hb⟩; clear x0 x1 x2 x3 x4 x5 x6 x7 x8; replace HB := hidp (HB.out.trans (hb.mono HB.out.size)); replace HA := hidp (HA.out.below hb HA.out.lt); clear hb; obtain ⟨x0, x1, x2, x3, x4, x5, x6, x7, x8⟩ := arr9 HA.out) | (go_at_call 115; refine (ent_any _ r s a t _ _ _ _ _).mono ?_; rintro e w1 ⟨rfl, hb⟩; clear x0 x1 x2 x3 x4 x5 x6 x7 x8; replace HB := hidp (HB.out.trans (hb.mono HB.out.size)); replace HA := hidp (HA.out.below hb HA.out.lt); clear hb; obtain ⟨x0, x1, x2, x3, x4, x5, x6, x7, x8⟩ := arr9 HA.out) | (go_at_call 117; refine (conc_any _ r s a t _ _ _ _ _).mono ?_; rintro e w1 ⟨rfl, hb⟩; clear x0 x1 x2 x3 x4 x5 x6 x7 x8; replace HB := hidp (HB.out.trans (hb.mono HB.out.size)); replace HA := hidp (HA.out.below hb HA.out.lt); clear hb; obtain ⟨x0, x1, x2, x3, x4, x5, x6, x7, x8⟩ := arr9 HA.out) | (go_at_call 118; refine (rem_any _ r s a t _ _ _ _ _).mono ?_; rintro e w1 ⟨rfl, hb⟩; clear x0 x1 x2 x3 x4 x5 x6 x7 x8; replace HB := hidp (HB.out.trans (hb.mono HB.out.size)); replace HA := hidp (HA.out.below hb HA.out.lt); clear hb; obtain ⟨x0, x1, x2, x3, x4, x5, x6, x7, x8⟩ := arr9 HA.out) | (go_at_call 90; refine (oneOf_any _ _ [(⟨#[106, 111, 105, 110]⟩ : ByteArray), (⟨#[98, 97, 110]⟩ : ByteArray)] _ (ws2 _ (⟨#[106, 111, 105, 110]⟩ : ByteArray) (⟨#[98, 97, 110]⟩ : ByteArray) 9) (by simp)).mono ?_; rintro e w2 ⟨rfl, rfl⟩; replace HB := hidp (HB.out.alloc HB.out.size (.cells #[.string (⟨#[106, 111, 105, 110]⟩ : ByteArray), .string (⟨#[98, 97, 110]⟩ : ByteArray)] 9)); replace HA := hidp (HA.out.alloc (.cells #[.string (⟨#[106, 111, 105, 110]⟩ : ByteArray), .string (⟨#[98, 97, 110]⟩ : ByteArray)] 9)); clear x0 x1 x2 x3 x4 x5 x6 x7 x8; obtain ⟨x0, x1, x2, x3, x4, x5, x6, x7, x8⟩ := arr9 HA.out)))
      go_ret
      exact ⟨by rw [HF.out]; rfl, HB.out⟩
    | true =>
      cases bn with
      | false =>
        have HF := hidp (show (mayB r s a t sf iv ki false true) = false from by unfold mayB; simp [o0, o1, o2, o3, o4, q0])
        go_enter Tryz.func92, Tryz.ntmps92
        go_wp2_with (first | (refine Rt.wpL_skip _ _ rfl rfl ?_) | (refine Rt.wpL_skipN _ _ rfl rfl ?_) | (refine wpL_boxT 109 rfl _ rfl [.string r, .string s, .string a, .string t, .bool sf, .bool iv, .bool ki, .bool false, .bool true] rfl ?_; intro b1 w1 n1; have HB := hidp n1.below; have HA := hidp n1.arr; clear n1; obtain ⟨x0, x1, x2, x3, x4, x5, x6, x7, x8⟩ := arr9 HA.out) | (first | (refine wpL_getM rfl (.tmp 1) rfl b1 [.string r, .string s, .string a, .string t, .bool sf, .bool iv, .bool ki, .bool false, .bool true] rfl rfl HA.out ?_) | (go_at_call 116; refine (byM_any _ r s a t _ _ _ _ _).mono ?_; rintro e w1 ⟨rfl, hb⟩; clear x0 x1 x2 x3 x4 x5 x6 x7 x8; replace HB := hidp (HB.out.trans (hb.mono HB.out.size)); replace HA := hidp (HA.out.below hb HA.out.lt); clear hb; obtain ⟨x0, x1, x2, x3, x4, x5, x6, x7, x8⟩ := arr9 HA.out) | (go_at_call 115; refine (ent_any _ r s a t _ _ _ _ _).mono ?_; rintro e w1 ⟨rfl, hb⟩; clear x0 x1 x2 x3 x4 x5 x6 x7 x8; replace HB := hidp (HB.out.trans (hb.mono HB.out.size)); replace HA := hidp (HA.out.below hb HA.out.lt); clear hb; obtain ⟨x0, x1, x2, x3, x4, x5, x6, x7, x8⟩ := arr9 HA.out) | (go_at_call 117; refine (conc_any _ r s a t _ _ _ _ _).mono ?_; rintro e w1 ⟨rfl, hb⟩; clear x0 x1 x2 x3 x4 x5 x6 x7 x8; replace HB := hidp (HB.out.trans (hb.mono HB.out.size)); replace HA := hidp (HA.out.below hb HA.out.lt); clear hb; obtain ⟨x0, x1, x2, x3, x4, x5, x6, x7, x8⟩ := arr9 HA.out) | (go_at_call 118; refine (rem_any _ r s a t _ _ _ _ _).mono ?_; rintro e w1 ⟨rfl, hb⟩; clear x0 x1 x2 x3 x4 x5 x6 x7 x8; replace HB := hidp (HB.out.trans (hb.mono HB.out.size)); replace HA := hidp (HA.out.below hb HA.out.lt); clear hb; obtain ⟨x0, x1, x2, x3, x4, x5, x6, x7, x8⟩ := arr9 HA.out) | (go_at_call 90; refine (oneOf_any _ _ [(⟨#[106, 111, 105, 110]⟩ : ByteArray), (⟨#[98, 97, 110]⟩ : ByteArray)] _ (ws2 _ (⟨#[106, 111, 105, 110]⟩ : ByteArray) (⟨#[98, 97, 110]⟩ : ByteArray) 9) (by simp)).mono ?_; rintro e w2 ⟨rfl, rfl⟩; replace HB := hidp (HB.out.alloc HB.out.size (.cells #[.string (⟨#[106, 111, 105, 110]⟩ : ByteArray), .string (⟨#[98, 97, 110]⟩ : ByteArray)] 9)); replace HA := hidp (HA.out.alloc (.cells #[.string (⟨#[106, 111, 105, 110]⟩ : ByteArray), .string (⟨#[98, 97, 110]⟩ : ByteArray)] 9)); clear x0 x1 x2 x3 x4 x5 x6 x7 x8; obtain ⟨x0, x1, x2, x3, x4, x5, x6, x7, x8⟩ := arr9 HA.out)))
        go_ret
        exact ⟨by rw [HF.out]; rfl, HB.out⟩
      | true =>
        have HF := hidp (show (mayB r s a t sf iv ki true true) = true from by unfold mayB; simp [o0, o1, o2, o3, o4, q0])
        go_enter Tryz.func92, Tryz.ntmps92
        go_wp2_with (first | (refine Rt.wpL_skip _ _ rfl rfl ?_) | (refine Rt.wpL_skipN _ _ rfl rfl ?_) | (refine wpL_boxT 109 rfl _ rfl [.string r, .string s, .string a, .string t, .bool sf, .bool iv, .bool ki, .bool true, .bool true] rfl ?_; intro b1 w1 n1; have HB := hidp n1.below; have HA := hidp n1.arr; clear n1; obtain ⟨x0, x1, x2, x3, x4, x5, x6, x7, x8⟩ := arr9 HA.out) | (first | (refine wpL_getM rfl (.tmp 1) rfl b1 [.string r, .string s, .string a, .string t, .bool sf, .bool iv, .bool ki, .bool true, .bool true] rfl rfl HA.out ?_) | (go_at_call 116; refine (byM_any _ r s a t _ _ _ _ _).mono ?_; rintro e w1 ⟨rfl, hb⟩; clear x0 x1 x2 x3 x4 x5 x6 x7 x8; replace HB := hidp (HB.out.trans (hb.mono HB.out.size)); replace HA := hidp (HA.out.below hb HA.out.lt); clear hb; obtain ⟨x0, x1, x2, x3, x4, x5, x6, x7, x8⟩ := arr9 HA.out) | (go_at_call 115; refine (ent_any _ r s a t _ _ _ _ _).mono ?_; rintro e w1 ⟨rfl, hb⟩; clear x0 x1 x2 x3 x4 x5 x6 x7 x8; replace HB := hidp (HB.out.trans (hb.mono HB.out.size)); replace HA := hidp (HA.out.below hb HA.out.lt); clear hb; obtain ⟨x0, x1, x2, x3, x4, x5, x6, x7, x8⟩ := arr9 HA.out) | (go_at_call 117; refine (conc_any _ r s a t _ _ _ _ _).mono ?_; rintro e w1 ⟨rfl, hb⟩; clear x0 x1 x2 x3 x4 x5 x6 x7 x8; replace HB := hidp (HB.out.trans (hb.mono HB.out.size)); replace HA := hidp (HA.out.below hb HA.out.lt); clear hb; obtain ⟨x0, x1, x2, x3, x4, x5, x6, x7, x8⟩ := arr9 HA.out) | (go_at_call 118; refine (rem_any _ r s a t _ _ _ _ _).mono ?_; rintro e w1 ⟨rfl, hb⟩; clear x0 x1 x2 x3 x4 x5 x6 x7 x8; replace HB := hidp (HB.out.trans (hb.mono HB.out.size)); replace HA := hidp (HA.out.below hb HA.out.lt); clear hb; obtain ⟨x0, x1, x2, x3, x4, x5, x6, x7, x8⟩ := arr9 HA.out) | (go_at_call 90; refine (oneOf_any _ _ [(⟨#[106, 111, 105, 110]⟩ : ByteArray), (⟨#[98, 97, 110]⟩ : ByteArray)] _ (ws2 _ (⟨#[106, 111, 105, 110]⟩ : ByteArray) (⟨#[98, 97, 110]⟩ : ByteArray) 9) (by simp)).mono ?_; rintro e w2 ⟨rfl, rfl⟩; replace HB := hidp (HB.out.alloc HB.out.size (.cells #[.string (⟨#[106, 111, 105, 110]⟩ : ByteArray), .string (⟨#[98, 97, 110]⟩ : ByteArray)] 9)); replace HA := hidp (HA.out.alloc (.cells #[.string (⟨#[106, 111, 105, 110]⟩ : ByteArray), .string (⟨#[98, 97, 110]⟩ : ByteArray)] 9)); clear x0 x1 x2 x3 x4 x5 x6 x7 x8; obtain ⟨x0, x1, x2, x3, x4, x5, x6, x7, x8⟩ := arr9 HA.out)))
        go_ret
        exact ⟨by rw [HF.out]; rfl, HB.out⟩
set_option maxHeartbeats 16000000 in
theorem may_4 (w : World) (r s a t : ByteArray) (sf iv ki bn ab : Bool) (hO : One t 4) :
    Calls Tryz.prog 92 #[.agg #[.string r, .string s, .string a, .string t, .bool sf, .bool iv, .bool ki, .bool bn, .bool ab]] w fun e w' => e = .returned (.bool (mayB r s a t sf iv ki bn ab)) ∧ Below w.heap.size w w' := by
  obtain ⟨o0, o1, o2, o3, o4⟩ := hO
  simp only [decide_true, show decide ((4 : Nat) = 0) = false from rfl, show decide ((4 : Nat) = 1) = false from rfl, show decide ((4 : Nat) = 2) = false from rfl, show decide ((4 : Nat) = 3) = false from rfl, show decide ((4 : Nat) = 4) = true from rfl] at o0 o1 o2 o3 o4
  cases sf with
  | false =>
    have HF := hidp (show (mayB r s a t false iv ki bn ab) = false from by unfold mayB; simp [o0, o1, o2, o3, o4])
    go_enter Tryz.func92, Tryz.ntmps92
    go_wp2_with (first | (refine Rt.wpL_skip _ _ rfl rfl ?_) | (refine Rt.wpL_skipN _ _ rfl rfl ?_) | (refine wpL_boxT 109 rfl _ rfl [.string r, .string s, .string a, .string t, .bool false, .bool iv, .bool ki, .bool bn, .bool ab] rfl ?_; intro b1 w1 n1; have HB := hidp n1.below; have HA := hidp n1.arr; clear n1; obtain ⟨x0, x1, x2, x3, x4, x5, x6, x7, x8⟩ := arr9 HA.out) | (first | (refine wpL_getM rfl (.tmp 1) rfl b1 [.string r, .string s, .string a, .string t, .bool false, .bool iv, .bool ki, .bool bn, .bool ab] rfl rfl HA.out ?_) | (go_at_call 116; refine (byM_any _ r s a t _ _ _ _ _).mono ?_; rintro e w1 ⟨rfl, hb⟩; clear x0 x1 x2 x3 x4 x5 x6 x7 x8; replace HB := hidp (HB.out.trans (hb.mono HB.out.size)); replace HA := hidp (HA.out.below hb HA.out.lt); clear hb; obtain ⟨x0, x1, x2, x3, x4, x5, x6, x7, x8⟩ := arr9 HA.out) | (go_at_call 115; refine (ent_any _ r s a t _ _ _ _ _).mono ?_; rintro e w1 ⟨rfl, hb⟩; clear x0 x1 x2 x3 x4 x5 x6 x7 x8; replace HB := hidp (HB.out.trans (hb.mono HB.out.size)); replace HA := hidp (HA.out.below hb HA.out.lt); clear hb; obtain ⟨x0, x1, x2, x3, x4, x5, x6, x7, x8⟩ := arr9 HA.out) | (go_at_call 117; refine (conc_any _ r s a t _ _ _ _ _).mono ?_; rintro e w1 ⟨rfl, hb⟩; clear x0 x1 x2 x3 x4 x5 x6 x7 x8; replace HB := hidp (HB.out.trans (hb.mono HB.out.size)); replace HA := hidp (HA.out.below hb HA.out.lt); clear hb; obtain ⟨x0, x1, x2, x3, x4, x5, x6, x7, x8⟩ := arr9 HA.out) | (go_at_call 118; refine (rem_any _ r s a t _ _ _ _ _).mono ?_; rintro e w1 ⟨rfl, hb⟩; clear x0 x1 x2 x3 x4 x5 x6 x7 x8; replace HB := hidp (HB.out.trans (hb.mono HB.out.size)); replace HA := hidp (HA.out.below hb HA.out.lt); clear hb; obtain ⟨x0, x1, x2, x3, x4, x5, x6, x7, x8⟩ := arr9 HA.out) | (go_at_call 90; refine (oneOf_any _ _ [(⟨#[106, 111, 105, 110]⟩ : ByteArray), (⟨#[98, 97, 110]⟩ : ByteArray)] _ (ws2 _ (⟨#[106, 111, 105, 110]⟩ : ByteArray) (⟨#[98, 97, 110]⟩ : ByteArray) 9) (by simp)).mono ?_; rintro e w2 ⟨rfl, rfl⟩; replace HB := hidp (HB.out.alloc HB.out.size (.cells #[.string (⟨#[106, 111, 105, 110]⟩ : ByteArray), .string (⟨#[98, 97, 110]⟩ : ByteArray)] 9)); replace HA := hidp (HA.out.alloc (.cells #[.string (⟨#[106, 111, 105, 110]⟩ : ByteArray), .string (⟨#[98, 97, 110]⟩ : ByteArray)] 9)); clear x0 x1 x2 x3 x4 x5 x6 x7 x8; obtain ⟨x0, x1, x2, x3, x4, x5, x6, x7, x8⟩ := arr9 HA.out)))
    go_ret
    exact ⟨by rw [HF.out]; rfl, HB.out⟩
  | true =>
    cases q1 : (r.toList == ([107, 110, 111, 99, 107] : List UInt8)) with
    | false =>
      have HF := hidp (show (mayB r s a t true iv ki bn ab) = false from by unfold mayB; simp [o0, o1, o2, o3, o4, q1])
      have m1 : (r.toList != ([107, 110, 111, 99, 107] : List UInt8)) = true := by rw [bne, q1]; rfl
      go_enter Tryz.func92, Tryz.ntmps92
      go_wp2_with (first | (refine Rt.wpL_skip _ _ rfl rfl ?_) | (refine Rt.wpL_skipN _ _ rfl rfl ?_) | (refine wpL_boxT 109 rfl _ rfl [.string r, .string s, .string a, .string t, .bool true, .bool iv, .bool ki, .bool bn, .bool ab] rfl ?_; intro b1 w1 n1; have HB := hidp n1.below; have HA := hidp n1.arr; clear n1; obtain ⟨x0, x1, x2, x3, x4, x5, x6, x7, x8⟩ := arr9 HA.out) | (first | (refine wpL_getM rfl (.tmp 1) rfl b1 [.string r, .string s, .string a, .string t, .bool true, .bool iv, .bool ki, .bool bn, .bool ab] rfl rfl HA.out ?_) | (go_at_call 116; refine (byM_any _ r s a t _ _ _ _ _).mono ?_; rintro e w1 ⟨rfl, hb⟩; clear x0 x1 x2 x3 x4 x5 x6 x7 x8; replace HB := hidp (HB.out.trans (hb.mono HB.out.size)); replace HA := hidp (HA.out.below hb HA.out.lt); clear hb; obtain ⟨x0, x1, x2, x3, x4, x5, x6, x7, x8⟩ := arr9 HA.out) | (go_at_call 115; refine (ent_any _ r s a t _ _ _ _ _).mono ?_; rintro e w1 ⟨rfl, hb⟩; clear x0 x1 x2 x3 x4 x5 x6 x7 x8; replace HB := hidp (HB.out.trans (hb.mono HB.out.size)); replace HA := hidp (HA.out.below hb HA.out.lt); clear hb; obtain ⟨x0, x1, x2, x3, x4, x5, x6, x7, x8⟩ := arr9 HA.out) | (go_at_call 117; refine (conc_any _ r s a t _ _ _ _ _).mono ?_; rintro e w1 ⟨rfl, hb⟩; clear x0 x1 x2 x3 x4 x5 x6 x7 x8; replace HB := hidp (HB.out.trans (hb.mono HB.out.size)); replace HA := hidp (HA.out.below hb HA.out.lt); clear hb; obtain ⟨x0, x1, x2, x3, x4, x5, x6, x7, x8⟩ := arr9 HA.out) | (go_at_call 118; refine (rem_any _ r s a t _ _ _ _ _).mono ?_; rintro e w1 ⟨rfl, hb⟩; clear x0 x1 x2 x3 x4 x5 x6 x7 x8; replace HB := hidp (HB.out.trans (hb.mono HB.out.size)); replace HA := hidp (HA.out.below hb HA.out.lt); clear hb; obtain ⟨x0, x1, x2, x3, x4, x5, x6, x7, x8⟩ := arr9 HA.out) | (go_at_call 90; refine (oneOf_any _ _ [(⟨#[106, 111, 105, 110]⟩ : ByteArray), (⟨#[98, 97, 110]⟩ : ByteArray)] _ (ws2 _ (⟨#[106, 111, 105, 110]⟩ : ByteArray) (⟨#[98, 97, 110]⟩ : ByteArray) 9) (by simp)).mono ?_; rintro e w2 ⟨rfl, rfl⟩; replace HB := hidp (HB.out.alloc HB.out.size (.cells #[.string (⟨#[106, 111, 105, 110]⟩ : ByteArray), .string (⟨#[98, 97, 110]⟩ : ByteArray)] 9)); replace HA := hidp (HA.out.alloc (.cells #[.string (⟨#[106, 111, 105, 110]⟩ : ByteArray), .string (⟨#[98, 97, 110]⟩ : ByteArray)] 9)); clear x0 x1 x2 x3 x4 x5 x6 x7 x8; obtain ⟨x0, x1, x2, x3, x4, x5, x6, x7, x8⟩ := arr9 HA.out)))
      go_ret
      exact ⟨by rw [HF.out]; rfl, HB.out⟩
    | true =>
      cases q2 : (a.toList == ([108, 101, 97, 118, 101] : List UInt8)) with
      | false =>
        have HF := hidp (show (mayB r s a t true iv ki bn ab) = false from by unfold mayB; simp [o0, o1, o2, o3, o4, q1, q2])
        have m1 : (r.toList != ([107, 110, 111, 99, 107] : List UInt8)) = false := by rw [bne, q1]; rfl
        have m2 : (a.toList != ([108, 101, 97, 118, 101] : List UInt8)) = true := by rw [bne, q2]; rfl
        go_enter Tryz.func92, Tryz.ntmps92
        go_wp2_with (first | (refine Rt.wpL_skip _ _ rfl rfl ?_) | (refine Rt.wpL_skipN _ _ rfl rfl ?_) | (refine wpL_boxT 109 rfl _ rfl [.string r, .string s, .string a, .string t, .bool true, .bool iv, .bool ki, .bool bn, .bool ab] rfl ?_; intro b1 w1 n1; have HB := hidp n1.below; have HA := hidp n1.arr; clear n1; obtain ⟨x0, x1, x2, x3, x4, x5, x6, x7, x8⟩ := arr9 HA.out) | (first | (refine wpL_getM rfl (.tmp 1) rfl b1 [.string r, .string s, .string a, .string t, .bool true, .bool iv, .bool ki, .bool bn, .bool ab] rfl rfl HA.out ?_) | (go_at_call 116; refine (byM_any _ r s a t _ _ _ _ _).mono ?_; rintro e w1 ⟨rfl, hb⟩; clear x0 x1 x2 x3 x4 x5 x6 x7 x8; replace HB := hidp (HB.out.trans (hb.mono HB.out.size)); replace HA := hidp (HA.out.below hb HA.out.lt); clear hb; obtain ⟨x0, x1, x2, x3, x4, x5, x6, x7, x8⟩ := arr9 HA.out) | (go_at_call 115; refine (ent_any _ r s a t _ _ _ _ _).mono ?_; rintro e w1 ⟨rfl, hb⟩; clear x0 x1 x2 x3 x4 x5 x6 x7 x8; replace HB := hidp (HB.out.trans (hb.mono HB.out.size)); replace HA := hidp (HA.out.below hb HA.out.lt); clear hb; obtain ⟨x0, x1, x2, x3, x4, x5, x6, x7, x8⟩ := arr9 HA.out) | (go_at_call 117; refine (conc_any _ r s a t _ _ _ _ _).mono ?_; rintro e w1 ⟨rfl, hb⟩; clear x0 x1 x2 x3 x4 x5 x6 x7 x8; replace HB := hidp (HB.out.trans (hb.mono HB.out.size)); replace HA := hidp (HA.out.below hb HA.out.lt); clear hb; obtain ⟨x0, x1, x2, x3, x4, x5, x6, x7, x8⟩ := arr9 HA.out) | (go_at_call 118; refine (rem_any _ r s a t _ _ _ _ _).mono ?_; rintro e w1 ⟨rfl, hb⟩; clear x0 x1 x2 x3 x4 x5 x6 x7 x8; replace HB := hidp (HB.out.trans (hb.mono HB.out.size)); replace HA := hidp (HA.out.below hb HA.out.lt); clear hb; obtain ⟨x0, x1, x2, x3, x4, x5, x6, x7, x8⟩ := arr9 HA.out) | (go_at_call 90; refine (oneOf_any _ _ [(⟨#[106, 111, 105, 110]⟩ : ByteArray), (⟨#[98, 97, 110]⟩ : ByteArray)] _ (ws2 _ (⟨#[106, 111, 105, 110]⟩ : ByteArray) (⟨#[98, 97, 110]⟩ : ByteArray) 9) (by simp)).mono ?_; rintro e w2 ⟨rfl, rfl⟩; replace HB := hidp (HB.out.alloc HB.out.size (.cells #[.string (⟨#[106, 111, 105, 110]⟩ : ByteArray), .string (⟨#[98, 97, 110]⟩ : ByteArray)] 9)); replace HA := hidp (HA.out.alloc (.cells #[.string (⟨#[106, 111, 105, 110]⟩ : ByteArray), .string (⟨#[98, 97, 110]⟩ : ByteArray)] 9)); clear x0 x1 x2 x3 x4 x5 x6 x7 x8; obtain ⟨x0, x1, x2, x3, x4, x5, x6, x7, x8⟩ := arr9 HA.out)))
        go_ret
        exact ⟨by rw [HF.out]; rfl, HB.out⟩
      | true =>
        have HF := hidp (show (mayB r s a t true iv ki bn ab) = true from by unfold mayB; simp [o0, o1, o2, o3, o4, q1, q2])
        have m1 : (r.toList != ([107, 110, 111, 99, 107] : List UInt8)) = false := by rw [bne, q1]; rfl
        have m2 : (a.toList != ([108, 101, 97, 118, 101] : List UInt8)) = false := by rw [bne, q2]; rfl
        go_enter Tryz.func92, Tryz.ntmps92
        go_wp2_with (first | (refine Rt.wpL_skip _ _ rfl rfl ?_) | (refine Rt.wpL_skipN _ _ rfl rfl ?_) | (refine wpL_boxT 109 rfl _ rfl [.string r, .string s, .string a, .string t, .bool true, .bool iv, .bool ki, .bool bn, .bool ab] rfl ?_; intro b1 w1 n1; have HB := hidp n1.below; have HA := hidp n1.arr; clear n1; obtain ⟨x0, x1, x2, x3, x4, x5, x6, x7, x8⟩ := arr9 HA.out) | (first | (refine wpL_getM rfl (.tmp 1) rfl b1 [.string r, .string s, .string a, .string t, .bool true, .bool iv, .bool ki, .bool bn, .bool ab] rfl rfl HA.out ?_) | (go_at_call 116; refine (byM_any _ r s a t _ _ _ _ _).mono ?_; rintro e w1 ⟨rfl, hb⟩; clear x0 x1 x2 x3 x4 x5 x6 x7 x8; replace HB := hidp (HB.out.trans (hb.mono HB.out.size)); replace HA := hidp (HA.out.below hb HA.out.lt); clear hb; obtain ⟨x0, x1, x2, x3, x4, x5, x6, x7, x8⟩ := arr9 HA.out) | (go_at_call 115; refine (ent_any _ r s a t _ _ _ _ _).mono ?_; rintro e w1 ⟨rfl, hb⟩; clear x0 x1 x2 x3 x4 x5 x6 x7 x8; replace HB := hidp (HB.out.trans (hb.mono HB.out.size)); replace HA := hidp (HA.out.below hb HA.out.lt); clear hb; obtain ⟨x0, x1, x2, x3, x4, x5, x6, x7, x8⟩ := arr9 HA.out) | (go_at_call 117; refine (conc_any _ r s a t _ _ _ _ _).mono ?_; rintro e w1 ⟨rfl, hb⟩; clear x0 x1 x2 x3 x4 x5 x6 x7 x8; replace HB := hidp (HB.out.trans (hb.mono HB.out.size)); replace HA := hidp (HA.out.below hb HA.out.lt); clear hb; obtain ⟨x0, x1, x2, x3, x4, x5, x6, x7, x8⟩ := arr9 HA.out) | (go_at_call 118; refine (rem_any _ r s a t _ _ _ _ _).mono ?_; rintro e w1 ⟨rfl, hb⟩; clear x0 x1 x2 x3 x4 x5 x6 x7 x8; replace HB := hidp (HB.out.trans (hb.mono HB.out.size)); replace HA := hidp (HA.out.below hb HA.out.lt); clear hb; obtain ⟨x0, x1, x2, x3, x4, x5, x6, x7, x8⟩ := arr9 HA.out) | (go_at_call 90; refine (oneOf_any _ _ [(⟨#[106, 111, 105, 110]⟩ : ByteArray), (⟨#[98, 97, 110]⟩ : ByteArray)] _ (ws2 _ (⟨#[106, 111, 105, 110]⟩ : ByteArray) (⟨#[98, 97, 110]⟩ : ByteArray) 9) (by simp)).mono ?_; rintro e w2 ⟨rfl, rfl⟩; replace HB := hidp (HB.out.alloc HB.out.size (.cells #[.string (⟨#[106, 111, 105, 110]⟩ : ByteArray), .string (⟨#[98, 97, 110]⟩ : ByteArray)] 9)); replace HA := hidp (HA.out.alloc (.cells #[.string (⟨#[106, 111, 105, 110]⟩ : ByteArray), .string (⟨#[98, 97, 110]⟩ : ByteArray)] 9)); clear x0 x1 x2 x3 x4 x5 x6 x7 x8; obtain ⟨x0, x1, x2, x3, x4, x5, x6, x7, x8⟩ := arr9 HA.out)))
        go_ret
        exact ⟨by rw [HF.out]; rfl, HB.out⟩
set_option maxHeartbeats 16000000 in
theorem may_5 (w : World) (r s a t : ByteArray) (sf iv ki bn ab : Bool) (hO : One t 5) :
    Calls Tryz.prog 92 #[.agg #[.string r, .string s, .string a, .string t, .bool sf, .bool iv, .bool ki, .bool bn, .bool ab]] w fun e w' => e = .returned (.bool (mayB r s a t sf iv ki bn ab)) ∧ Below w.heap.size w w' := by
  obtain ⟨o0, o1, o2, o3, o4⟩ := hO
  simp only [decide_true, show decide ((5 : Nat) = 0) = false from rfl, show decide ((5 : Nat) = 1) = false from rfl, show decide ((5 : Nat) = 2) = false from rfl, show decide ((5 : Nat) = 3) = false from rfl, show decide ((5 : Nat) = 4) = false from rfl] at o0 o1 o2 o3 o4
  have HF := hidp (show (mayB r s a t sf iv ki bn ab) = false from by unfold mayB; simp [o0, o1, o2, o3, o4])
  go_enter Tryz.func92, Tryz.ntmps92
  go_wp2_with (first | (refine Rt.wpL_skip _ _ rfl rfl ?_) | (refine Rt.wpL_skipN _ _ rfl rfl ?_) | (refine wpL_boxT 109 rfl _ rfl [.string r, .string s, .string a, .string t, .bool sf, .bool iv, .bool ki, .bool bn, .bool ab] rfl ?_; intro b1 w1 n1; have HB := hidp n1.below; have HA := hidp n1.arr; clear n1; obtain ⟨x0, x1, x2, x3, x4, x5, x6, x7, x8⟩ := arr9 HA.out) | (first | (refine wpL_getM rfl (.tmp 1) rfl b1 [.string r, .string s, .string a, .string t, .bool sf, .bool iv, .bool ki, .bool bn, .bool ab] rfl rfl HA.out ?_) | (go_at_call 116; refine (byM_any _ r s a t _ _ _ _ _).mono ?_; rintro e w1 ⟨rfl, hb⟩; clear x0 x1 x2 x3 x4 x5 x6 x7 x8; replace HB := hidp (HB.out.trans (hb.mono HB.out.size)); replace HA := hidp (HA.out.below hb HA.out.lt); clear hb; obtain ⟨x0, x1, x2, x3, x4, x5, x6, x7, x8⟩ := arr9 HA.out) | (go_at_call 115; refine (ent_any _ r s a t _ _ _ _ _).mono ?_; rintro e w1 ⟨rfl, hb⟩; clear x0 x1 x2 x3 x4 x5 x6 x7 x8; replace HB := hidp (HB.out.trans (hb.mono HB.out.size)); replace HA := hidp (HA.out.below hb HA.out.lt); clear hb; obtain ⟨x0, x1, x2, x3, x4, x5, x6, x7, x8⟩ := arr9 HA.out) | (go_at_call 117; refine (conc_any _ r s a t _ _ _ _ _).mono ?_; rintro e w1 ⟨rfl, hb⟩; clear x0 x1 x2 x3 x4 x5 x6 x7 x8; replace HB := hidp (HB.out.trans (hb.mono HB.out.size)); replace HA := hidp (HA.out.below hb HA.out.lt); clear hb; obtain ⟨x0, x1, x2, x3, x4, x5, x6, x7, x8⟩ := arr9 HA.out) | (go_at_call 118; refine (rem_any _ r s a t _ _ _ _ _).mono ?_; rintro e w1 ⟨rfl, hb⟩; clear x0 x1 x2 x3 x4 x5 x6 x7 x8; replace HB := hidp (HB.out.trans (hb.mono HB.out.size)); replace HA := hidp (HA.out.below hb HA.out.lt); clear hb; obtain ⟨x0, x1, x2, x3, x4, x5, x6, x7, x8⟩ := arr9 HA.out) | (go_at_call 90; refine (oneOf_any _ _ [(⟨#[106, 111, 105, 110]⟩ : ByteArray), (⟨#[98, 97, 110]⟩ : ByteArray)] _ (ws2 _ (⟨#[106, 111, 105, 110]⟩ : ByteArray) (⟨#[98, 97, 110]⟩ : ByteArray) 9) (by simp)).mono ?_; rintro e w2 ⟨rfl, rfl⟩; replace HB := hidp (HB.out.alloc HB.out.size (.cells #[.string (⟨#[106, 111, 105, 110]⟩ : ByteArray), .string (⟨#[98, 97, 110]⟩ : ByteArray)] 9)); replace HA := hidp (HA.out.alloc (.cells #[.string (⟨#[106, 111, 105, 110]⟩ : ByteArray), .string (⟨#[98, 97, 110]⟩ : ByteArray)] 9)); clear x0 x1 x2 x3 x4 x5 x6 x7 x8; obtain ⟨x0, x1, x2, x3, x4, x5, x6, x7, x8⟩ := arr9 HA.out)))
  go_ret
  exact ⟨by rw [HF.out]; rfl, HB.out⟩
theorem may_any (w : World) (r s a t : ByteArray) (sf iv ki bn ab : Bool) :
    Calls Tryz.prog 92 #[.agg #[.string r, .string s, .string a, .string t, .bool sf, .bool iv, .bool ki, .bool bn, .bool ab]] w fun e w' => e = .returned (.bool (mayB r s a t sf iv ki bn ab)) ∧ Below w.heap.size w w' := by
  obtain ⟨k, hk, hO⟩ := one_of t
  match k, hk with
  | 0, _ => exact may_0 w r s a t sf iv ki bn ab hO
  | 1, _ => exact may_1 w r s a t sf iv ki bn ab hO
  | 2, _ => exact may_2 w r s a t sf iv ki bn ab hO
  | 3, _ => exact may_3 w r s a t sf iv ki bn ab hO
  | 4, _ => exact may_4 w r s a t sf iv ki bn ab hO
  | 5, _ => exact may_5 w r s a t sf iv ki bn ab hO
set_option maxHeartbeats 16000000 in
theorem allowed_any (w : World) (r s a t : ByteArray) (sf iv ki bn ab : Bool) :
    Calls Tryz.prog 64 #[.agg #[.string r, .string s, .string a, .string t, .bool sf, .bool iv, .bool ki, .bool bn, .bool ab]] w fun e w' => e = .returned (.int .i64 (alE r s a t sf iv ki bn ab)) ∧ Below w.heap.size w w' := by
  have ck := hidp (fun W => check_any W r s a t sf iv ki bn ab); have cm := hidp (fun W => may_any W r s a t sf iv ki bn ab)
  by_cases hck : ckE r s a t = 0
  · rw [hck] at ck
    cases hm : mayB r s a t sf iv ki bn ab with
    | false =>
      have HF := hidp (show alE r s a t sf iv ki bn ab = 12 from by unfold alE; rw [hck, hm]; rfl)
      rw [hm] at cm
      clear hck hm
      go_enter Tryz.func64, Tryz.ntmps64
      go_wp2_with (first | (refine wpL_boxT 109 rfl _ rfl [.string r, .string s, .string a, .string t, .bool sf, .bool iv, .bool ki, .bool bn, .bool ab] rfl ?_; intro b1 w1 n1; have HB := hidp n1.below; have HA := hidp n1.arr; clear n1; obtain ⟨x0, x1, x2, x3, x4, x5, x6, x7, x8⟩ := arr9 HA.out) | (refine wpL_getM rfl (.tmp 1) rfl b1 [.string r, .string s, .string a, .string t, .bool sf, .bool iv, .bool ki, .bool bn, .bool ab] rfl rfl HA.out ?_) | (go_at_call 91; refine (ck.out _).mono ?_; rintro e w1 ⟨rfl, hb⟩; clear x0 x1 x2 x3 x4 x5 x6 x7 x8; replace HB := hidp (HB.out.trans (hb.mono HB.out.size)); replace HA := hidp (HA.out.below hb HA.out.lt); clear hb; obtain ⟨x0, x1, x2, x3, x4, x5, x6, x7, x8⟩ := arr9 HA.out) | (go_at_call 92; refine (cm.out _).mono ?_; rintro e w1 ⟨rfl, hb⟩; clear x0 x1 x2 x3 x4 x5 x6 x7 x8; replace HB := hidp (HB.out.trans (hb.mono HB.out.size)); replace HA := hidp (HA.out.below hb HA.out.lt); clear hb; obtain ⟨x0, x1, x2, x3, x4, x5, x6, x7, x8⟩ := arr9 HA.out))
      go_ret
      exact ⟨by rw [HF.out]; rfl, HB.out⟩
    | true =>
      have HF := hidp (show alE r s a t sf iv ki bn ab = 0 from by unfold alE; rw [hck, hm]; rfl)
      rw [hm] at cm
      clear hck hm
      go_enter Tryz.func64, Tryz.ntmps64
      go_wp2_with (first | (refine wpL_boxT 109 rfl _ rfl [.string r, .string s, .string a, .string t, .bool sf, .bool iv, .bool ki, .bool bn, .bool ab] rfl ?_; intro b1 w1 n1; have HB := hidp n1.below; have HA := hidp n1.arr; clear n1; obtain ⟨x0, x1, x2, x3, x4, x5, x6, x7, x8⟩ := arr9 HA.out) | (refine wpL_getM rfl (.tmp 1) rfl b1 [.string r, .string s, .string a, .string t, .bool sf, .bool iv, .bool ki, .bool bn, .bool ab] rfl rfl HA.out ?_) | (go_at_call 91; refine (ck.out _).mono ?_; rintro e w1 ⟨rfl, hb⟩; clear x0 x1 x2 x3 x4 x5 x6 x7 x8; replace HB := hidp (HB.out.trans (hb.mono HB.out.size)); replace HA := hidp (HA.out.below hb HA.out.lt); clear hb; obtain ⟨x0, x1, x2, x3, x4, x5, x6, x7, x8⟩ := arr9 HA.out) | (go_at_call 92; refine (cm.out _).mono ?_; rintro e w1 ⟨rfl, hb⟩; clear x0 x1 x2 x3 x4 x5 x6 x7 x8; replace HB := hidp (HB.out.trans (hb.mono HB.out.size)); replace HA := hidp (HA.out.below hb HA.out.lt); clear hb; obtain ⟨x0, x1, x2, x3, x4, x5, x6, x7, x8⟩ := arr9 HA.out))
      go_ret
      exact ⟨by rw [HF.out]; rfl, HB.out⟩
  · have h2 : ckE r s a t = 2 := by unfold ckE at hck ⊢; split <;> simp_all
    have HF := hidp (show alE r s a t sf iv ki bn ab = 2 from by unfold alE; rw [if_neg hck])
    rw [h2] at ck
    clear hck h2
    go_enter Tryz.func64, Tryz.ntmps64
    go_wp2_with (first | (refine wpL_boxT 109 rfl _ rfl [.string r, .string s, .string a, .string t, .bool sf, .bool iv, .bool ki, .bool bn, .bool ab] rfl ?_; intro b1 w1 n1; have HB := hidp n1.below; have HA := hidp n1.arr; clear n1; obtain ⟨x0, x1, x2, x3, x4, x5, x6, x7, x8⟩ := arr9 HA.out) | (refine wpL_getM rfl (.tmp 1) rfl b1 [.string r, .string s, .string a, .string t, .bool sf, .bool iv, .bool ki, .bool bn, .bool ab] rfl rfl HA.out ?_) | (go_at_call 91; refine (ck.out _).mono ?_; rintro e w1 ⟨rfl, hb⟩; clear x0 x1 x2 x3 x4 x5 x6 x7 x8; replace HB := hidp (HB.out.trans (hb.mono HB.out.size)); replace HA := hidp (HA.out.below hb HA.out.lt); clear hb; obtain ⟨x0, x1, x2, x3, x4, x5, x6, x7, x8⟩ := arr9 HA.out))
    go_ret
    exact ⟨by rw [HF.out]; rfl, HB.out⟩
end Go.Proofs.YtkcgmimcopoknaaGreatDoor
