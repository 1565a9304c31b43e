
/-
  octet.Num and the document's: the bytes of a number.
-/
import Derived.Test.YtglfdenlgglccaaDoorOctA
namespace Go.Proofs.YtglfdenlgglccaaDoor
set_option linter.unusedVariables false
set_option linter.unusedSimpArgs false
set_option maxRecDepth 100000
open Go.RowKit

def numS (n : Nat) : ByteArray := if n ≤ 281474976710656 then mkS (encN n) else ByteArray.empty
def numE (n : Nat) : Int := if n ≤ 281474976710656 then 0 else 1
theorem numS_yes {n : Nat} (h : n ≤ 281474976710656) : numS n = mkS (encN n) := by unfold numS; rw [if_pos h]
theorem numE_yes {n : Nat} (h : n ≤ 281474976710656) : numE n = 0 := by unfold numE; rw [if_pos h]
theorem numS_no {n : Nat} (h : ¬ n ≤ 281474976710656) : numS n = ByteArray.empty := by unfold numS; rw [if_neg h]
theorem numE_no {n : Nat} (h : ¬ n ≤ 281474976710656) : numE n = 1 := by unfold numE; rw [if_neg h]

set_option maxHeartbeats 1000000 in
theorem num_any (w : World) (n : Nat) (hn : n < 18446744073709551616) :
    Calls Tryd.prog 22 #[.int .u64 n] w fun e w' => e = .returned (.tuple #[.string (numS n), .int .i64 (numE n)]) ∧ Below w.heap.size w w' := by
  by_cases h : n ≤ 281474976710656
  · rw [numS_yes h, numE_yes h]
    go_enter Tryd.func22, Tryd.ntmps22
    go_wp2_with fail
    refine (addNum_own w w.heap.size (.slice none 0 0) [] n hn (by simp) (Own.nil _ _ _) (Nat.le_refl _)).mono ?_
    rintro e w1 ⟨v', rfl, ho, hb⟩
    have hc := run_str_own Tryd.underlying73 Tryd.underlying5 Tryd.underlying9 ho
    clear ho
    go_wp2
    go_ret2
    exact ⟨rfl, hb⟩
  · rw [numS_no h, numE_no h]
    go_enter Tryd.func22, Tryd.ntmps22
    go_wp2
    go_ret2
    exact ⟨rfl, Below.refl _ _⟩

theorem rem_byte (m : Nat) : (m : Int) % 128 + 128 = ((contB m).toNat : Int) := by unfold contB; rw [u8n _ (by omega)]; omega

set_option maxRecDepth 20000 in
set_option maxHeartbeats 1000000 in
theorem refNum_any (w : World) (n : Nat) (hn : n < 18446744073709551616) :
    Calls Tryd.prog 24 #[.int .u64 n] w fun e w' => e = .returned (.tuple #[.string (numS n), .int .i64 (numE n)]) ∧ Below w.heap.size w w' := by
  by_cases h : n ≤ 281474976710656
  · rw [numS_yes h, numE_yes h]
    go_enter Tryd.func24, Tryd.ntmps24
    go_wp2
    go_loopw [0, 4] (fun t0 t4 wr => ∃ (m : Nat) (ys : List UInt8), t0 = .int .u64 m ∧ m ≤ n ∧ t4 = .string (mkS ys) ∧ ys ++ encN m = encN n ∧ Below w.heap.size w wr)
      (fun t0 _ _ => (intOf t0).toNat)
    case atStart => exact ⟨n, [], rfl, Nat.le_refl _, rfl, rfl, Below.refl _ _⟩
    case round =>
      obtain ⟨m, ys, rfl, hm, rfl, heq, hbl⟩ := hrel
      have hys : (mkS ys).size ≤ 10 := by rw [mkS_size]; have := congrArg List.length heq; have := encN_len64 n hn; simp at *; omega
      have HE := hidp heq; clear heq
      have hsz := hbl.size
      by_cases h128 : 128 ≤ m
      · have hc := fun z => run_str_one (P := Tryd.prog) (w := wr) Tryd.underlying73 Tryd.underlying5 Tryd.underlying9 z (contB m)
        have hc := hc _ (rem_byte m)
        have hs1 : (mkS [contB m]).size ≤ 1 := by rw [mkS_size]; simp
        have hb2 := (hbl.alloc (by omega) (.cells #[.int .u8 ((m : Int) % 128 + 128)] 5))
        go_wp2
        refine ⟨⟨m / 128, ys ++ [contB m], by go_num, by omega, by rw [← mkS_append], snoc_encN m ys _ h128 HE.out, hb2⟩, by simp [intOf]; omega⟩
      · have hc := fun z => run_str_one (P := Tryd.prog) (w := wr) Tryd.underlying73 Tryd.underlying5 Tryd.underlying9 z (lastB m)
        have hc := hc _ (last_byte m (by omega))
        have hs1 : (mkS [lastB m]).size ≤ 1 := by rw [mkS_size]; simp
        have hb2 := (hbl.alloc (by omega) (.cells #[.int .u8 (m : Int)] 5))
        have hl := hidp (last_encN m ys _ (by omega) HE.out)
        go_wp2
        go_ret2
        refine ⟨?_, hb2⟩
        rw [mkS_append, hl.out]; rfl
  · rw [numS_no h, numE_no h]
    go_enter Tryd.func24, Tryd.ntmps24
    go_wp2
    go_ret2
    exact ⟨rfl, Below.refl _ _⟩
end Go.Proofs.YtglfdenlgglccaaDoor
