/-
  net: what the examples ask.
-/
import Derived.Test.YtokakgjcegmabaaNtD
namespace Go.Proofs.Ytokakgjcegmabaa.Nt
set_option maxRecDepth 100000
set_option linter.unusedVariables false
set_option linter.unusedSimpArgs false
open Go.RowKit
open List (getElem_toArray getElem_cons_zero getElem_cons_succ setIfInBounds_toArray set_cons_zero set_cons_succ)

theorem NetAt.blk {w : World} {b B : Nat} {v : Value} {L : List ByteArray} {m n : Int} (h : NetAt w b B v L m n) : ∀ g, v.ownBlock = some g → B ≤ g := by
  intro g hg
  rcases h.own.2 with ⟨rfl, -⟩ | ⟨g', cap, cur, rfl, hB, -⟩
  · cases hg
  · cases hg; exact hB
theorem stepB {N b : Nat} {w W W' : World} {v : Value} {L : List ByteArray} {m n : Int} (hB : Below N w W) (h : NetAt W b N v L m n) (hb : N ≤ b) (g : G2 b v.ownBlock W W') : Below N w W' :=
  hB.trans (g.below (Nat.le_trans hb (Nat.le_of_lt h.arr.lt)) hb h.blk)
/-- What a call does to a network of one's own. -/
def NC (b N : Nat) (f : FuncId) (args : Array Value) (L : List ByteArray) (m n : Int) (r : Value) (L' : List ByteArray) (n' : Int) : Prop :=
  ∀ W v, NetAt W b N v L m n → N ≤ W.heap.size → Calls Try.prog f args W fun e W' => e = .returned r ∧ ∃ v', NetAt W' b N v' L' m n' ∧ G2 b v.ownBlock W W' ∧ Nr W v v'
set_option maxHeartbeats 8000000 in
theorem lives29_any (w : World) : Calls Try.prog 7 #[] w fun e w' => e = .returned (.bool true) ∧ Below w.heap.size w w' := by
  have cn := hidp (fun W => new_yes W 2 (by decide) (by decide))
  have cz := hidp (fun W => new_no W 0 (by decide))
  have c1 := hidp (show ∀ b, NC b w.heap.size 11 #[.pointer (some ⟨b, 0, none⟩), .string ⟨#[97]⟩] [] 2 0 (.int .i64 0) [⟨#[97]⟩] 0 from fun b W v hn hB => by
    have := put_any W b _ v [] 2 0 hn hB (by decide) (by decide) ⟨#[97]⟩ (by decide)
    rw [show putE [] 2 = 0 from if_neg (by decide), show putN [] 2 0 = 0 from if_neg (by decide), show putL [] 2 ⟨#[97]⟩ = [] ++ [⟨#[97]⟩] from if_neg (by decide)] at this; exact this)
  have c2 := hidp (show ∀ b, NC b w.heap.size 17 #[.pointer (some ⟨b, 0, none⟩), .int .i64 0] [⟨#[97]⟩] 2 0 (.int .i64 0) [⟨#[97]⟩, ⟨#[97]⟩] 0 from fun b W v hn hB => by
    have := double_any W b _ v [⟨#[97]⟩] 2 0 hn (by decide) hB (by decide) (fun k => by rcases k with _ | k <;> (unfold Sl.sAt; simp; decide)) 0
    rw [show dbE [⟨#[97]⟩] 2 0 = 0 from by decide, show dbL [⟨#[97]⟩] 2 0 = [⟨#[97]⟩, ⟨#[97]⟩] from by decide, show dbN [⟨#[97]⟩] 2 0 0 = 0 from by decide] at this; exact this)
  have c3 := hidp (show ∀ b, NC b w.heap.size 11 #[.pointer (some ⟨b, 0, none⟩), .string ⟨#[98]⟩] [⟨#[97]⟩, ⟨#[97]⟩] 2 0 (.int .i64 8) [⟨#[97]⟩, ⟨#[97]⟩] 1 from fun b W v hn hB => by
    have := put_any W b _ v [⟨#[97]⟩, ⟨#[97]⟩] 2 0 hn hB (by decide) (by decide) ⟨#[98]⟩ (by decide)
    rw [show putE [⟨#[97]⟩, ⟨#[97]⟩] 2 = 8 from if_pos (by decide), show putN [⟨#[97]⟩, ⟨#[97]⟩] 2 0 = 0 + 1 from if_pos (by decide), show putL [⟨#[97]⟩, ⟨#[97]⟩] 2 ⟨#[98]⟩ = [⟨#[97]⟩, ⟨#[97]⟩] from if_pos (by decide)] at this; exact this)
  have c4 := hidp (show ∀ b, NC b w.heap.size 15 #[.pointer (some ⟨b, 0, none⟩), .int .i64 2] [⟨#[97]⟩, ⟨#[97]⟩] 2 1 (.int .i64 3) [⟨#[97]⟩, ⟨#[97]⟩] 1 from fun b W v hn hB => by
    have := drop_any W b _ v [⟨#[97]⟩, ⟨#[97]⟩] 2 1 hn (by decide) (by decide) 2
    rw [show tkE [⟨#[97]⟩, ⟨#[97]⟩] 2 = 3 from by decide, show tkL [⟨#[97]⟩, ⟨#[97]⟩] 2 = [⟨#[97]⟩, ⟨#[97]⟩] from by decide, show drN [⟨#[97]⟩, ⟨#[97]⟩] 2 1 = 1 from by decide] at this; exact this)
  have c5 := hidp (show ∀ b, NC b w.heap.size 13 #[.pointer (some ⟨b, 0, none⟩), .int .i64 1] [⟨#[97]⟩, ⟨#[97]⟩] 2 1 (.tuple #[.string ⟨#[97]⟩, .int .i64 0]) [⟨#[97]⟩] 1 from fun b W v hn hB => by
    have := take_any W b _ v [⟨#[97]⟩, ⟨#[97]⟩] 2 1 hn (by decide) 1
    rw [show tkE [⟨#[97]⟩, ⟨#[97]⟩] 1 = 0 from by decide, show tkL [⟨#[97]⟩, ⟨#[97]⟩] 1 = [⟨#[97]⟩] from by decide, show tkS [⟨#[97]⟩, ⟨#[97]⟩] 1 = ⟨#[97]⟩ from by decide] at this; exact this)
  have c6 := hidp (show ∀ b, NC b w.heap.size 15 #[.pointer (some ⟨b, 0, none⟩), .int .i64 0] [⟨#[97]⟩] 2 1 (.int .i64 0) [] 2 from fun b W v hn hB => by
    have := drop_any W b _ v [⟨#[97]⟩] 2 1 hn (by decide) (by decide) 0
    rw [show tkE [⟨#[97]⟩] 0 = 0 from by decide, show tkL [⟨#[97]⟩] 0 = [] from by decide, show drN [⟨#[97]⟩] 0 1 = 2 from by decide] at this; exact this)
  have c7 := hidp (fun W b v (hn : NetAt W b w.heap.size v [] 2 2) => len_any W b _ v [] 2 2 hn)
  have c8 := hidp (fun W b v (hn : NetAt W b w.heap.size v [] 2 2) => lost_any W b _ v [] 2 2 hn)
  have c9 := hidp (fun W b v (hn : NetAt W b w.heap.size v [] 2 2) => all_any W b _ v [] 2 2 hn (by decide) (fun k => by unfold Sl.sAt; simp; decide))
  go_enter Try.func7, Try.ntmps7
  have tk0 := hidp trivial
  go_wp2_with (first | (clear tk0; (go_at_call 8; refine (cn.out _).mono ?_; rintro e _ ⟨b, rfl, hn, hb, hB⟩; have HN := hidp hn; have hb0 := hidp hb; have HB := hidp hB; clear hn hb hB cn); (try simp only [Act.put, setIfInBounds_toArray, set_cons_zero, set_cons_succ]); have tk1 := hidp trivial) | (clear tk1; (go_at_call 8; refine (cz.out _).mono ?_; rintro e _ ⟨rfl, rfl⟩; clear cz); (try simp only [Act.put, setIfInBounds_toArray, set_cons_zero, set_cons_succ]); have tk2 := hidp trivial) | (clear tk2; (go_at_call 11; refine (c1.out _ _ _ HN.out HB.out.size).mono ?_; rintro e _ ⟨rfl, _, hn, hg, -⟩; replace HB := hidp (stepB HB.out HN.out hb0.out hg); replace HN := hidp hn; clear hn hg c1); (try simp only [Act.put, setIfInBounds_toArray, set_cons_zero, set_cons_succ]); have tk3 := hidp trivial) | (clear tk3; (go_at_call 17; refine (c2.out _ _ _ HN.out HB.out.size).mono ?_; rintro e _ ⟨rfl, _, hn, hg, -⟩; replace HB := hidp (stepB HB.out HN.out hb0.out hg); replace HN := hidp hn; clear hn hg c2); (try simp only [Act.put, setIfInBounds_toArray, set_cons_zero, set_cons_succ]); have tk4 := hidp trivial) | (clear tk4; (go_at_call 11; refine (c3.out _ _ _ HN.out HB.out.size).mono ?_; rintro e _ ⟨rfl, _, hn, hg, -⟩; replace HB := hidp (stepB HB.out HN.out hb0.out hg); replace HN := hidp hn; clear hn hg c3); (try simp only [Act.put, setIfInBounds_toArray, set_cons_zero, set_cons_succ]); have tk5 := hidp trivial) | (clear tk5; (go_at_call 15; refine (c4.out _ _ _ HN.out HB.out.size).mono ?_; rintro e _ ⟨rfl, _, hn, hg, -⟩; replace HB := hidp (stepB HB.out HN.out hb0.out hg); replace HN := hidp hn; clear hn hg c4); (try simp only [Act.put, setIfInBounds_toArray, set_cons_zero, set_cons_succ]); have tk6 := hidp trivial) | (clear tk6; (go_at_call 13; refine (c5.out _ _ _ HN.out HB.out.size).mono ?_; rintro e _ ⟨rfl, _, hn, hg, -⟩; replace HB := hidp (stepB HB.out HN.out hb0.out hg); replace HN := hidp hn; clear hn hg c5); (try simp only [Act.put, setIfInBounds_toArray, set_cons_zero, set_cons_succ]); have tk7 := hidp trivial) | (clear tk7; (go_at_call 15; refine (c6.out _ _ _ HN.out HB.out.size).mono ?_; rintro e _ ⟨rfl, _, hn, hg, -⟩; replace HB := hidp (stepB HB.out HN.out hb0.out hg); replace HN := hidp hn; clear hn hg c6); (try simp only [Act.put, setIfInBounds_toArray, set_cons_zero, set_cons_succ]); have tk8 := hidp trivial) | (clear tk8; (go_at_call 18; refine (c7.out _ _ _ HN.out).mono ?_; rintro e _ ⟨rfl, rfl⟩; clear c7); (try simp only [Act.put, setIfInBounds_toArray, set_cons_zero, set_cons_succ]); have tk9 := hidp trivial) | (clear tk9; (go_at_call 19; refine (c8.out _ _ _ HN.out).mono ?_; rintro e _ ⟨rfl, rfl⟩; clear c8); (try simp only [Act.put, setIfInBounds_toArray, set_cons_zero, set_cons_succ]); have tk10 := hidp trivial) | (clear tk10; (go_at_call 21; refine (c9.out _ _ _ HN.out).mono ?_; rintro e _ ⟨v9, rfl, ho, hb⟩; obtain ⟨a9, k9, hv9⟩ := Sl.own_form ho; rw [show (strV []).length = 0 from rfl] at hv9; subst hv9; replace HB := hidp (HB.out.trans (hb.mono HB.out.size)); clear ho hb c9); (try simp only [Act.put, setIfInBounds_toArray, set_cons_zero, set_cons_succ]); have tk11 := hidp trivial))
  try clear tk11
  go_ret
  exact ⟨rfl, HB.out⟩
end Go.Proofs.Ytokakgjcegmabaa.Nt
