
/-
  octet.addNum: what it does to a row of bytes of the call's own.
-/
import Derived.Test.YtbgooppmhgaicabRows
import Derived.Test.YtbgooppmhgaicabOctM
import Derived.WalkKit
import Derived.WalkSpells
import Derived.WalkLawsBesides
import Derived.Handy
namespace Go.Proofs.Ytbgooppmhgaicab
set_option linter.unusedVariables false
set_option linter.unusedSimpArgs false
set_option maxRecDepth 100000
open Go.RowKit

theorem info5o : (Try.prog.info? 5).map (fun i => (i.zero, i.size, i.bytes)) = some (some (.int .u8 0), 1, 1) := by kernel_rfl

set_option maxHeartbeats 1000000 in
theorem addNum_own (w : World) (B : Nat) (v : Value) (xs : List UInt8) (n : Nat) (hn : n < 18446744073709551616) (hx : xs.length + 10 ≤ 140737488351232)
    (hown : Own w B 5 v xs) (hB : B ≤ w.heap.size) :
    Calls Try.prog 27 #[v, .int .u64 n] w fun e w' => ∃ v', e = .returned v' ∧ Own w' B 5 v' (xs ++ encN n) ∧ Below B w w' := by
  obtain ⟨i0, hi, hz0, hz1, hz2⟩ := info_parts info5o
  go_enter Try.func27, Try.ntmps27
  go_wp2
  go_loopw [0, 1] (fun t0 t1 wr => ∃ (m : Nat) (ys : List UInt8), t1 = .int .u64 m ∧ m ≤ n ∧ Own wr B 5 t0 ys ∧ ys ++ encN m = xs ++ encN n ∧ Below B w wr)
    (fun _ t1 _ => (intOf t1).toNat)
  case atStart => exact ⟨n, xs, rfl, Nat.le_refl _, hown, rfl, Below.refl _ _⟩
  case round =>
    obtain ⟨m, ys, rfl, hm, ho, heq, hbl⟩ := hrel
    have HE := hidp heq; clear heq
    have hyl : ys.length + (encN m).length = xs.length + (encN n).length := by have := congrArg List.length HE.out; simpa using this
    have hsz := hbl.size
    by_cases h128 : 128 ≤ m
    · have hcb := hidp (cont_byte m (by omega))
      have hl1 := hidp (congrArg List.length (encN_ge h128))
      have hroom : ys.length + 1 ≤ 140737488351232 := by have := hl1.out; simp at this; have := encN_len64 n hn; omega
      go_wp2_with ((at_builtin; (refine wpList_app1 rfl (.tmp 7) (.tmp 12) 50 rfl B 5 i0 Try.underlying50 hi hz0 hz1 hz2 _ ys rfl (ho.alloc _) ⟨wr.heap.size, 0, none⟩ _ _ (contB m) rfl (cell_new1 _ _ _) hcb.out hroom ?_ ?_)))
      · rw [heap_size_alloc]; omega
      · intro v' w1 ho1 hb1
        have hb2 := hbl.trans (((Below.refl B wr).alloc (by omega) _).trans hb1)
        clear hb1
        go_wp2
        refine ⟨⟨m / 128, ys ++ [contB m], by go_num, by omega, ho1, snoc_encN m ys _ h128 HE.out, hb2⟩, by simp [intOf]; omega⟩
    · have hlb := hidp (last_byte m (by omega))
      have hroom : ys.length + 1 ≤ 140737488351232 := by have := encN_pos m; have := encN_len64 n hn; omega
      go_wp2_with ((at_builtin; (refine wpList_app1 rfl (.tmp 16) (.tmp 19) 50 rfl B 5 i0 Try.underlying50 hi hz0 hz1 hz2 _ ys rfl (ho.alloc _) ⟨wr.heap.size, 0, none⟩ _ _ (lastB m) rfl (cell_new1 _ _ _) hlb.out hroom ?_ ?_)))
      · rw [heap_size_alloc]; omega
      · intro v' w1 ho1 hb1
        have hb2 := hbl.trans (((Below.refl B wr).alloc (by omega) _).trans hb1)
        have ho2 : Own w1 B 5 v' (xs ++ encN n) := by rw [← last_encN m ys _ (by omega) HE.out]; exact ho1
        clear hb1 ho1
        go_wp2
        go_ret
        exact ⟨_, rfl, ho2, hb2⟩
end Go.Proofs.Ytbgooppmhgaicab
