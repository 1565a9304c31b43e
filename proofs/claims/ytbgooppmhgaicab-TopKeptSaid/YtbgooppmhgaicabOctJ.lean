
/-
  octet.pieces: the iterator over a list's texts.
-/
import Derived.Test.YtbgooppmhgaicabOctI
import Derived.RangeFuncNested
import Derived.RangeFuncBound
import Derived.RangeFuncCalls
import Derived.RangeFuncLeaves
import Derived.RangeFuncBox
import Derived.Shelf.Abstract
import Derived.Shelf.RegionOpen
import Derived.OwnWalkIn
import Derived.TacticsInMore
import Derived.LoopNIn
import Derived.LoopIn
namespace Go.Proofs.Ytbgooppmhgaicab
set_option linter.unusedVariables false
set_option linter.unusedSimpArgs false
set_option maxRecDepth 100000
open Go.RowKit Go.Shelf
attribute [local go_sem] Oper.semAt_some

/-- What one round is handed: the text, its size, the error. -/
abbrev Pc := { x : ByteArray × Nat × Nat // x.1.size ≤ 8192 ∧ x.2.1 ≤ 8199 ∧ x.2.2 ≤ 7 }
def encP (x : Pc) : Array Value := #[.agg #[.string x.1.1, .int .i64 x.1.2.1, .int .i64 x.1.2.2]]
theorem gt_bd2 (s : ByteArray) : (gt s).1.size ≤ 8192 ∧ (gt s).2.1 ≤ 8199 ∧ (gt s).2.2 ≤ 7 := by
  refine ⟨(gt_bd s).2.2, ?_, (gt_bd s).2.1⟩
  unfold gt
  have hb := gn_bd s.data.toList
  simp only
  repeat' split
  all_goals simp
  omega
def gtP (s : ByteArray) : Pc := ⟨gt s, gt_bd2 s⟩
def pcs : Nat → ByteArray → List Pc
  | 0, _ => []
  | k + 1, s => gtP s :: (if (gt s).2.2 ≠ 0 then [] else pcs k (s.extract (gt s).2.1 s.size))

theorem grown_of_below {w w' : World} (h : Below w.heap.size w w') : w.grownBy w' none := ⟨h.os, h.tape, h.output, h.size, fun k hk _ => h.block k hk⟩

theorem pieces_in (F : Fence) (n : Nat) (h27 : F.fn 44) (hro : F.round = none) (s : ByteArray) (m : Nat) (w : World) :
    CallsIn F n Try.prog 44 #[.string s, .int .i64 m] w fun e w' => e = .returned (.func (.func 52) #[] #[.pointer (some ⟨w.heap.size, 0, none⟩), .pointer (some ⟨w.heap.size + 1, 0, none⟩)]) ∧
      w' = (w.alloc (.cells #[.string s] 9)).alloc (.cells #[.int .i64 m] 3) := by
  refine callsIn_of_wp Try.func44 rfl h27 ?_ hro
  simp only [Try.ntmps44, List.size_toArray, List.length_cons, List.length_nil, Nat.reduceAdd, Nat.reduceSub, Array.replicate_succ, Array.replicate_zero, List.push_toArray, List.append_toArray, List.nil_append, List.cons_append]
  gi_wp2
  go_ret
  exact ⟨rfl, rfl⟩

set_option maxRecDepth 100000 in
set_option maxHeartbeats 2000000 in
theorem pieces1_in (n : Nat) (hn : 2 ≤ n) (l Bs Bm : Nat) (s0 : ByteArray) (hs0 : s0.size ≤ 281474976710656) (m : Nat) (hm : m ≤ 256) (J Jx : List Pc → World → Prop) (W : World) (hJ : AbidesFrom W.heap.size J)
    (hY : ∀ pre x W1, J pre W1 → pre.length < (pcs m s0).length → YieldAt Fence.wide (n - 1) Try.prog l (encP x) W1 fun e W' =>
      (e = .returned (.bool true) ∧ J (pre ++ [x]) W' ∧ True) ∨ (e = .returned (.bool false) ∧ Jx (pre ++ [x]) W'))
    (hBs : W.cell? ⟨Bs, 0, none⟩ = some (.string s0)) (hBm : W.cell? ⟨Bm, 0, none⟩ = some (.int .i64 m)) (h0 : J [] W) :
    CallsIn Fence.wide n Try.prog 52 #[.func (.yield l) #[] #[], .pointer (some ⟨Bs, 0, none⟩), .pointer (some ⟨Bm, 0, none⟩)] W fun e W' => (∃ v, e = .returned v) ∧
      ((∃ ys, ys = pcs m s0 ∧ J ys W') ∨ (∃ pre, pre <+: pcs m s0 ∧ Jx pre W')) := by
  refine callsIn_of_wp Try.func52 rfl trivial ?_ rfl
  simp only [Try.ntmps52, List.size_toArray, List.length_cons, List.length_nil, Nat.reduceAdd, Nat.reduceSub, Array.replicate_succ, Array.replicate_zero, List.push_toArray, List.append_toArray, List.nil_append, List.cons_append]
  have HY := hidp hY; clear hY
  gi_wp2
  gi_loopw [4, 10] (fun t4 t10 wr => ∃ (i : Nat) (rest : ByteArray) (pre : List Pc), t10 = .int .i64 i ∧ i ≤ m ∧ t4 = .string rest ∧ rest.size ≤ 281474976710656 ∧ pcs m s0 = pre ++ pcs (m - i) rest ∧ J pre wr ∧ 0 ≤ wr.heap.size)
    (fun _ t10 _ => m - (intOf t10).toNat)
  case atStart => exact ⟨0, s0, [], rfl, by omega, rfl, hs0, rfl, h0, Nat.zero_le _⟩
  case round =>
    obtain ⟨i, rest, pre, rfl, hi, rfl, hrs, hpc, hJs, hws⟩ := hrel
    have HPC := hidp hpc; clear hpc
    by_cases hlt : i < m
    · obtain ⟨j, hj⟩ : ∃ j, m - i = j + 1 := ⟨m - i - 1, by omega⟩
      have hp2 := HPC.out
      rw [hj, pcs] at hp2
      have HP2 := hidp hp2; clear hp2
      have HJ := hidp hj; clear hj
      have hG := hidp (fun w => getText_any w rest hrs)
      have hbd := gt_bd2 rest
      have hbd2 := gt_bd rest
      obtain ⟨x, hx⟩ : ∃ x, x = gtP rest := ⟨_, rfl⟩
      have hxv : x.1 = gt rest := by rw [hx]; rfl
      obtain ⟨⟨⟨t, q, e⟩, hxx⟩, hxe⟩ : ∃ y : Pc, y = x := ⟨_, rfl⟩
      rw [← hxe] at hxv hx
      simp only at hxv
      have hG2 := hidp (show ∀ w, Calls Try.prog 46 #[.string rest] w fun e1 w' => e1 = .returned (.tuple #[.string t, .int .i64 q, .int .i64 e]) ∧ Below w.heap.size w w' from fun w => by have := hG.out w; rw [← hxv] at this; exact this)
      clear hG
      rw [← hxv] at hbd hbd2
      have HX := hidp hx; have HXV := hidp hxv; clear hx hxv
      simp only at hbd hbd2
      obtain ⟨hb1, hb2, hb3⟩ := hbd
      obtain ⟨hc1, -, -⟩ := hbd2
      have HXE := hidp hxe; clear hxe
      gi_wp2_with fail
      refine ⟨trivial, fun _ => by omega, ?_⟩
      refine (callsIn_wide.2 (hG2.out _)).mono ?_
      rintro e1 w2 ⟨rfl, hb2⟩
      have hJ2 := hJ pre wr w2 none hJs (grown_of_below hb2) (fun r e => by cases e)
      obtain ⟨fn, tmps, assign, body, hy, hR⟩ := HY.out pre ⟨(t, q, e), hxx⟩ w2 hJ2 (by rw [HP2.out]; simp)
      simp only [encP] at hy hR
      gi_wp2
      refine ⟨fun _ => by omega, hR.mono ?_⟩
      rintro e1 W3 (⟨rfl, hJ3, -⟩ | ⟨rfl, hJx3⟩)
      · by_cases he : e = 0
        · have heb := errB0 he
          have hp3 := hidp (show pcs m s0 = (pre ++ [⟨(t, q, e), hxx⟩]) ++ pcs j (rest.extract q rest.size) from by
            rw [HP2.out, ← HXV.out, if_neg (by simpa using he), ← HX.out]; simp)
          have H0 := hidp he; clear he
          have hx1 : (rest.extract q rest.size).size ≤ 281474976710656 := by simp; omega
          gi_wp2
          refine ⟨⟨i + 1, _, pre ++ [⟨(t, q, e), hxx⟩], by go_num, by omega, rfl, hx1, by rw [show m - (i + 1) = j from by have := HJ.out; omega]; exact hp3.out, hJ3, Nat.zero_le _⟩, by simp [intOf]; omega⟩
        · have heb := errB he
          have hp3 := hidp (show pcs m s0 = pre ++ [⟨(t, q, e), hxx⟩] from by
            rw [HP2.out, ← HXV.out, if_pos he, ← HX.out])
          have H0 := hidp he; clear he
          gi_wp2
          refine bodyPost_ret (results_none rfl _ _ _) rfl ?_
          exact ⟨⟨_, rfl⟩, .inl ⟨_, hp3.out.symm, hJ3⟩⟩
      · have hp3 := hidp (show (pre ++ [⟨(t, q, e), hxx⟩]) <+: pcs m s0 from by
            rw [HP2.out, ← HX.out]; exact ⟨_, by simp; rfl⟩)
        gi_wp2
        refine bodyPost_ret (results_none rfl _ _ _) rfl ?_
        exact ⟨⟨_, rfl⟩, .inr ⟨_, hp3.out, hJx3⟩⟩
    · have hji := hidp (show pcs m s0 = pre from by rw [HPC.out, show m - i = 0 from by omega]; simp [pcs])
      gi_wp2
      go_end0
      exact ⟨⟨_, rfl⟩, .inl ⟨_, hji.out.symm, hJs⟩⟩
end Go.Proofs.Ytbgooppmhgaicab
