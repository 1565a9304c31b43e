
/-
  member: words, and a move as a row.
-/
import Derived.Test.YtlgmgllilmlffaaDoorOctM
import Derived.Test.YtlgmgllilmlffaaDoorBaA
import Derived.Test.YtlgmgllilmlffaaDoorProg
import Derived.Laws.Rows
import Derived.Lib.SlicesS
namespace Go.Proofs.YtlgmgllilmlffaaDoor
set_option maxRecDepth 100000
set_option linter.unusedVariables false
set_option linter.unusedSimpArgs false
open Go.RowKit


/-- A word is one of several. -/
def anyW (ws : List ByteArray) (x : ByteArray) : Bool := ws.any (fun y => x.toList == y.toList)
theorem any_no {ws : List ByteArray} {x : ByteArray} (h : ∀ j (hj : j < ws.length), x ≠ ws[j]) : anyW ws x = false := by
  unfold anyW
  rw [List.any_eq_false]
  intro y hy
  obtain ⟨j, hj, rfl⟩ := List.mem_iff_getElem.1 hy
  rw [(Go.Lib.bytes_beq_false_iff _ _).2 (h j hj)]; exact Bool.false_ne_true
theorem any_yes {ws : List ByteArray} {x : ByteArray} {j : Nat} (hj : j < ws.length) (h : x = ws[j]) : anyW ws x = true := by
  unfold anyW
  rw [List.any_eq_true]
  exact ⟨ws[j], List.getElem_mem hj, (Go.Lib.bytes_beq_iff _ _).2 h⟩
theorem toList_lit (l : List UInt8) : (⟨l.toArray⟩ : ByteArray).toList = l := by rw [ByteArray.toList_eq]
/-- Words in memory. -/
def WsAt (w : World) (v : Value) (ss : List ByteArray) : Prop :=
  ∃ b cap, v = .slice (some ⟨b, 0, none⟩) ss.length cap ∧ ∀ k (h : k < ss.length), w.cell? ⟨b, k, none⟩ = some (.string ss[k])
theorem ws2 (w : World) (a b : ByteArray) (t : Nat) : WsAt (w.alloc (.cells #[.string a, .string b] t)) (.slice (some ⟨w.heap.size, 0, none⟩) 2 2) [a, b] := by
  refine ⟨_, _, rfl, fun k hk => ?_⟩
  have h := Arr.new w t [.string a, .string b]
  match k, hk with
  | 0, _ => exact h.cell 0 (by simp)
  | 1, _ => exact h.cell 1 (by simp)
theorem ws3 (w : World) (a b c : ByteArray) (t : Nat) : WsAt (w.alloc (.cells #[.string a, .string b, .string c] t)) (.slice (some ⟨w.heap.size, 0, none⟩) 3 3) [a, b, c] := by
  refine ⟨_, _, rfl, fun k hk => ?_⟩
  have h := Arr.new w t [.string a, .string b, .string c]
  match k, hk with
  | 0, _ => exact h.cell 0 (by simp)
  | 1, _ => exact h.cell 1 (by simp)
  | 2, _ => exact h.cell 2 (by simp)
theorem ws5 (w : World) (a b c d f : ByteArray) (t : Nat) : WsAt (w.alloc (.cells #[.string a, .string b, .string c, .string d, .string f] t)) (.slice (some ⟨w.heap.size, 0, none⟩) 5 5) [a, b, c, d, f] := by
  refine ⟨_, _, rfl, fun k hk => ?_⟩
  have h := Arr.new w t [.string a, .string b, .string c, .string d, .string f]
  match k, hk with
  | 0, _ => exact h.cell 0 (by simp)
  | 1, _ => exact h.cell 1 (by simp)
  | 2, _ => exact h.cell 2 (by simp)
  | 3, _ => exact h.cell 3 (by simp)
  | 4, _ => exact h.cell 4 (by simp)
set_option maxHeartbeats 4000000 in
theorem index_any (w : World) (v : Value) (ws : List ByteArray) (x : ByteArray) (hat : WsAt w v ws) (hn : ws.length ≤ 100) :
    Calls Tryd.prog 101 #[v, .string x] w fun e w' => ∃ i : Int, e = .returned (.int .i64 i) ∧ ((∃ k : Nat, i = k ∧ anyW ws x = true) ∨ (i = -1 ∧ anyW ws x = false)) ∧ w' = w := by
  obtain ⟨b, cap, rfl, hc⟩ := hat
  obtain ⟨n, hnn⟩ : ∃ n, ws.length = n := ⟨_, rfl⟩
  have HC := hidp hc; clear hc
  have HN := hidp hnn
  rw [hnn]
  rw [hnn] at hn
  clear hnn
  go_enter Tryd.func101, Tryd.ntmps101
  go_wp2
  go_loop [5, 8] (fun _ i => ∃ k : Nat, k ≤ n ∧ i = .int .i64 k ∧ ∀ j (hj : j < ws.length), j < k → x ≠ ws[j]) (fun _ i => n - (intOf i).toNat)
  case atStart => exact ⟨0, Nat.zero_le _, rfl, fun j _ hj => absurd hj (Nat.not_lt_zero _)⟩
  case round =>
    obtain ⟨k, hk, rfl, hne⟩ := hrel
    have HNE := hidp hne; clear hne
    by_cases hl : k < n
    · have hl2 : (k : Int) < (n : Int) := by omega
      have hl3 : (0 : Int) ≤ (k : Int) := by omega
      have hkw : k < ws.length := by rw [HN.out]; exact hl
      have hcell := HC.out k hkw
      have hw : IntKind.i64.wrap ((k : Int) + 1) = (((k + 1 : Nat)) : Int) := by rw [IntWalk.i64_in _ ⟨by omega, by omega⟩]; simp
      obtain ⟨y, hy⟩ : ∃ y, ws[k] = y := ⟨_, rfl⟩
      rw [hy] at hcell
      have HY := hidp (show ∀ h : k < ws.length, ws[k]'h = y from fun _ => hy); clear hy
      have HK := hidp hkw; clear hkw
      cases hq : (x.toList == y.toList) with
      | true =>
        have HQ := hidp (any_yes HK.out (((Go.Lib.bytes_beq_iff _ _).1 hq).trans (HY.out _).symm))
        go_wp2
        go_ret
        exact ⟨_, rfl, .inl ⟨⟨k, rfl⟩, HQ.out⟩, rfl⟩
      | false =>
        have HQ := hidp (show x ≠ y from (Go.Lib.bytes_beq_false_iff _ _).1 hq)
        have HW := hidp hw
        clear hw
        go_wp2
        refine ⟨⟨k + 1, by omega, by simp, fun j hj hjk => ?_⟩, by simp [intOf]; omega⟩
        · by_cases e : j = k
          · subst e; rw [HY.out]; exact HQ.out
          · exact HNE.out j hj (by omega)
    · have hl2 : ¬ (k : Int) < (n : Int) := by omega
      have HQ := hidp (any_no (ws := ws) (x := x) fun j hj => HNE.out j hj (by have := HN.out; omega))
      go_wp2
      go_ret
      exact ⟨_, rfl, .inr ⟨rfl, HQ.out⟩, rfl⟩

set_option maxHeartbeats 4000000 in
theorem contains_any (w : World) (v : Value) (ws : List ByteArray) (x : ByteArray) (hat : WsAt w v ws) (hn : ws.length ≤ 100) :
    Calls Tryd.prog 84 #[v, .string x] w fun e w' => e = .returned (.bool (anyW ws x)) ∧ w' = w := by
  have c := hidp (index_any w v ws x hat hn)
  clear hat
  go_enter Tryd.func84, Tryd.ntmps84
  go_wp2_with fail
  refine c.out.mono ?_
  rintro e w' ⟨i, rfl, hi, rfl⟩
  rcases hi with ⟨k, rfl, hA⟩ | ⟨rfl, hA⟩
  · have h0 : (0 : Int) ≤ (k : Int) := by omega
    have h1 : ¬ (k : Int) < 0 := by omega
    have HA := hidp hA; clear hA
    go_wp2_with fail
    go_ret
    exact ⟨by rw [HA.out]; rfl, rfl⟩
  · have HA := hidp hA; clear hA
    go_wp2_with fail
    go_ret
    exact ⟨by rw [HA.out]; rfl, rfl⟩
set_option maxHeartbeats 4000000 in
theorem oneOf_any (w : World) (v : Value) (ws : List ByteArray) (x : ByteArray) (hat : WsAt w v ws) (hn : ws.length ≤ 100) :
    Calls Tryd.prog 67 #[.string x, v] w fun e w' => e = .returned (.bool (anyW ws x)) ∧ w' = w := by
  have c := hidp (contains_any w v ws x hat hn)
  clear hat
  go_enter Tryd.func67, Tryd.ntmps67
  go_wp2_with fail
  refine c.out.mono ?_
  rintro e w' ⟨rfl, rfl⟩
  go_wp2_with fail
  go_ret
  exact ⟨rfl, rfl⟩

def isB (x : ByteArray) : Bool := anyW [(⟨#[106, 111, 105, 110]⟩ : ByteArray), (⟨#[105, 110, 118, 105, 116, 101]⟩ : ByteArray), (⟨#[108, 101, 97, 118, 101]⟩ : ByteArray), (⟨#[98, 97, 110]⟩ : ByteArray), (⟨#[107, 110, 111, 99, 107]⟩ : ByteArray)] x
set_option maxHeartbeats 4000000 in
theorem is_any (w : World) (x : ByteArray) :
    Calls Tryd.prog 64 #[.string x] w fun e w' => e = .returned (.bool (isB x)) ∧ Below w.heap.size w w' := by
  have c := hidp (fun W v (h : WsAt W v [(⟨#[106, 111, 105, 110]⟩ : ByteArray), (⟨#[105, 110, 118, 105, 116, 101]⟩ : ByteArray), (⟨#[108, 101, 97, 118, 101]⟩ : ByteArray), (⟨#[98, 97, 110]⟩ : ByteArray), (⟨#[107, 110, 111, 99, 107]⟩ : ByteArray)]) => oneOf_any W v [(⟨#[106, 111, 105, 110]⟩ : ByteArray), (⟨#[105, 110, 118, 105, 116, 101]⟩ : ByteArray), (⟨#[108, 101, 97, 118, 101]⟩ : ByteArray), (⟨#[98, 97, 110]⟩ : ByteArray), (⟨#[107, 110, 111, 99, 107]⟩ : ByteArray)] x h (by simp))
  have HX := hidp ((Below.refl w.heap.size w).alloc (Nat.le_refl _) (.cells #[.string (⟨#[106, 111, 105, 110]⟩ : ByteArray), .string (⟨#[105, 110, 118, 105, 116, 101]⟩ : ByteArray), .string (⟨#[108, 101, 97, 118, 101]⟩ : ByteArray), .string (⟨#[98, 97, 110]⟩ : ByteArray), .string (⟨#[107, 110, 111, 99, 107]⟩ : ByteArray)] 9))
  have HV := hidp (ws5 w (⟨#[106, 111, 105, 110]⟩ : ByteArray) (⟨#[105, 110, 118, 105, 116, 101]⟩ : ByteArray) (⟨#[108, 101, 97, 118, 101]⟩ : ByteArray) (⟨#[98, 97, 110]⟩ : ByteArray) (⟨#[107, 110, 111, 99, 107]⟩ : ByteArray) 9)
  go_enter Tryd.func64, Tryd.ntmps64
  go_wp2_with fail
  refine (c.out _ _ HV.out).mono ?_
  rintro e w' ⟨rfl, rfl⟩
  go_wp2_with fail
  go_ret
  exact ⟨rfl, HX.out⟩

def ruleB (x : ByteArray) : Bool := anyW [(⟨#[112, 117, 98, 108, 105, 99]⟩ : ByteArray), (⟨#[105, 110, 118, 105, 116, 101]⟩ : ByteArray), (⟨#[107, 110, 111, 99, 107]⟩ : ByteArray)] x
set_option maxHeartbeats 4000000 in
theorem rule_any (w : World) (x : ByteArray) :
    Calls Tryd.prog 63 #[.string x] w fun e w' => e = .returned (.bool (ruleB x)) ∧ Below w.heap.size w w' := by
  have c := hidp (fun W v (h : WsAt W v [(⟨#[112, 117, 98, 108, 105, 99]⟩ : ByteArray), (⟨#[105, 110, 118, 105, 116, 101]⟩ : ByteArray), (⟨#[107, 110, 111, 99, 107]⟩ : ByteArray)]) => oneOf_any W v [(⟨#[112, 117, 98, 108, 105, 99]⟩ : ByteArray), (⟨#[105, 110, 118, 105, 116, 101]⟩ : ByteArray), (⟨#[107, 110, 111, 99, 107]⟩ : ByteArray)] x h (by simp))
  have HX := hidp ((Below.refl w.heap.size w).alloc (Nat.le_refl _) (.cells #[.string (⟨#[112, 117, 98, 108, 105, 99]⟩ : ByteArray), .string (⟨#[105, 110, 118, 105, 116, 101]⟩ : ByteArray), .string (⟨#[107, 110, 111, 99, 107]⟩ : ByteArray)] 9))
  have HV := hidp (ws3 w (⟨#[112, 117, 98, 108, 105, 99]⟩ : ByteArray) (⟨#[105, 110, 118, 105, 116, 101]⟩ : ByteArray) (⟨#[107, 110, 111, 99, 107]⟩ : ByteArray) 9)
  go_enter Tryd.func63, Tryd.ntmps63
  go_wp2_with fail
  refine (c.out _ _ HV.out).mono ?_
  rintro e w' ⟨rfl, rfl⟩
  go_wp2_with fail
  go_ret
  exact ⟨rfl, HX.out⟩

def inB (x : ByteArray) : Bool := anyW [(⟨#[106, 111, 105, 110]⟩ : ByteArray), (⟨#[105, 110, 118, 105, 116, 101]⟩ : ByteArray), (⟨#[107, 110, 111, 99, 107]⟩ : ByteArray)] x

end Go.Proofs.YtlgmgllilmlffaaDoor
