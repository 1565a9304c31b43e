
/-
  The document's All and Same.
-/
import Derived.Test.YtokakgjcegmabaaOctH
namespace Go.Proofs.Ytokakgjcegmabaa
set_option linter.unusedVariables false
set_option linter.unusedSimpArgs false
open Go.RowKit

theorem glGo_bd (s : ByteArray) (k p : Nat) (xs : List ByteArray) (hp : p ≤ s.size) (hx : ∀ t ∈ xs, t.size ≤ 8192) :
    (glGo s k p xs).2.1 ≤ s.size ∧ (glGo s k p xs).2.2 ≤ 7 ∧ (glGo s k p xs).1.length ≤ xs.length + k ∧ ∀ t ∈ (glGo s k p xs).1, t.size ≤ 8192 := by
  induction k generalizing p xs with
  | zero => simp only [glGo]; exact ⟨hp, by omega, by omega, hx⟩
  | succ k ih =>
    have hb := gt_bd (s.extract p s.size)
    rw [glGo]
    split
    · simp only; exact ⟨by omega, hb.2.1, by simp, by simp⟩
    · have := ih (p + (gt (s.extract p s.size)).2.1) (xs ++ [(gt (s.extract p s.size)).1]) (by have := hb.1; simp at this; omega) (by
        intro t ht
        rcases List.mem_append.1 ht with h | h
        · exact hx t h
        · simp at h; subst h; exact hb.2.2)
      refine ⟨this.1, this.2.1, ?_, this.2.2.2⟩
      have h2 := this.2.2.1; simp at h2; omega
theorem gl_bd (s : ByteArray) : (gl s).2.1 ≤ s.size ∧ (gl s).2.2 ≤ 7 ∧ (gl s).1.length ≤ 256 ∧ ∀ t ∈ (gl s).1, t.size ≤ 8192 := by
  unfold gl
  have hb := gn_bd s.data.toList
  simp only
  split
  · simp; omega
  · split
    · simp
    · have := glGo_bd s (gn s.data.toList).1 (gn s.data.toList).2.1 [] (by have := hb.2.2.1; simpa using this) (by simp)
      refine ⟨this.1, this.2.1, ?_, this.2.2.2⟩
      have h2 := this.2.2.1; simp at h2; omega

def al (s : ByteArray) : List ByteArray × Nat :=
  if (gl s).2.2 ≠ 0 then ([], (gl s).2.2) else if (gl s).2.1 < s.size then ([], 6) else ((gl s).1, 0)

theorem strsNil (w : World) : StrsAt w (.slice none 0 0) [] := ⟨none, 0, rfl, fun k hk => by simp at hk⟩

def sameB (ss tt : List ByteArray) : Bool := decide (ss = tt)
theorem sameB_len {ss tt : List ByteArray} (h : ss.length ≠ tt.length) : sameB ss tt = false := by unfold sameB; simp; intro e; exact h (by rw [e])
theorem sameB_at {ss tt : List ByteArray} (k : Nat) (h : k < ss.length) (h' : k < tt.length) (hne : ss[k] ≠ tt[k]) : sameB ss tt = false := by unfold sameB; simp; intro e; subst e; exact hne rfl
theorem sameB_all {ss tt : List ByteArray} (hl : ss.length = tt.length) (h : ∀ k (h : k < ss.length) (h' : k < tt.length), ss[k] = tt[k]) : sameB ss tt = true := by
  unfold sameB; simp; exact List.ext_getElem hl h
theorem sameB_self (ss : List ByteArray) : sameB ss ss = true := by unfold sameB; simp

set_option maxHeartbeats 1000000 in
set_option maxRecDepth 20000 in
theorem same_any (w : World) (v v' : Value) (ss tt : List ByteArray) (hat : StrsAt w v ss) (hat' : StrsAt w v' tt) (hn : ss.length ≤ 140737488351232) (hn' : tt.length ≤ 140737488351232) :
    Calls Try.prog 20 #[v, v'] w fun e w' => e = .returned (.bool (sameB ss tt)) ∧ Below w.heap.size w w' := by
  obtain ⟨a, cap, rfl, hc⟩ := hat
  obtain ⟨a', cap', rfl, hc'⟩ := hat'
  obtain ⟨n, hnn⟩ : ∃ n, ss.length = n := ⟨_, rfl⟩
  obtain ⟨n', hnn'⟩ : ∃ n', tt.length = n' := ⟨_, rfl⟩
  obtain ⟨S, hS⟩ : ∃ S, S = sameB ss tt := ⟨_, rfl⟩
  rw [hnn] at hn ⊢
  rw [hnn'] at hn' ⊢
  rw [← hS]
  have HC := hidp hc; clear hc
  have HNN := hidp hnn; clear hnn
  have HC' := hidp hc'; clear hc'
  have HNN' := hidp hnn'; clear hnn'
  have HS := hidp hS; clear hS
  by_cases hl : n = n'
  · subst hl
    have hlb : ((n : Int) != (n : Int)) = false := by simp
    go_enter Try.func20, Try.ntmps20
    go_wp2
    go_loopw [13] (fun t13 wr => ∃ k : Nat, t13 = .int .i64 k ∧ k ≤ n ∧ (∀ j (h : j < ss.length) (h' : j < tt.length), j < k → ss[j] = tt[j]) ∧ Below w.heap.size w wr) (fun t13 _ => n - (intOf t13).toNat)
    case atStart => exact ⟨0, rfl, by omega, by intro j _ _ h; omega, Below.refl _ _⟩
    case round =>
      obtain ⟨k, rfl, hk, hall, hb⟩ := hrel
      have HALL := hidp hall; clear hall
      by_cases hlt : k < n
      · have hlt1 : k < ss.length := by have := HNN.out; omega
        have hlt2 : k < tt.length := by have := HNN'.out; omega
        obtain ⟨b, off, rfl, hcell⟩ := HC.out k hlt1
        obtain ⟨b', off', rfl, hcell'⟩ := HC'.out k hlt2
        have h1 := (hb.cell (p := ⟨b, off + k, none⟩) (by have := World.block_lt_of_cell? w _ hcell; simpa using this)).trans hcell
        have h2 := (hb.cell (p := ⟨b', off' + k, none⟩) (by have := World.block_lt_of_cell? w _ hcell'; simpa using this)).trans hcell'
        clear hcell hcell'
        have hne := hidp (fun hne => sameB_at (ss := ss) (tt := tt) k hlt1 hlt2 hne)
        obtain ⟨s, hs⟩ : ∃ s, ss[k] = s := ⟨_, rfl⟩
        obtain ⟨t, ht⟩ : ∃ t, tt[k] = t := ⟨_, rfl⟩
        rw [hs] at h1
        rw [ht] at h2
        have hne := hidp (show s ≠ t → sameB ss tt = false from by rw [← hs, ← ht]; exact hne.out)
        have H1 := hidp hs; have H2 := hidp ht; clear hs ht
        have hi0 : (0 : Int) ≤ (k : Int) := by omega
        have hi1 : (k : Int) < (n : Int) := by omega
        by_cases hst : s = t
        · subst hst
          have hB := hidp fun nq => below_drewN hb nq
          go_wp2
          go_quiet (fail)
          go_wp2
          refine ⟨⟨k + 1, by go_num, by omega, fun j h h' hj => ?_, hB.out _⟩, by simp [intOf]; omega⟩
          by_cases hjk : j = k
          · subst hjk; have e1 := H1.out; have e2 := H2.out; rw [e1, e2]
          · exact HALL.out j h h' (by omega)
        · have hne2 := hidp (hne.out hst)
          have ht := toList_no hst
          have hB := hidp fun nq => below_drewN hb nq
          have HST := hidp hst; clear hst
          go_wp2
          go_quiet (fail)
          go_wp2
          go_ret
          exact ⟨by rw [HS.out, hne2.out]; rfl, hB.out _⟩
      · have hfin := hidp (sameB_all (ss := ss) (tt := tt) (by rw [HNN.out, HNN'.out]) fun j h h' => HALL.out j h h' (by have := HNN.out; omega))
        go_wp2
        go_ret
        exact ⟨by rw [HS.out, hfin.out]; rfl, hb⟩
  · have hlb : ((n : Int) != (n' : Int)) = true := by simp; omega
    have hfin := hidp (sameB_len (ss := ss) (tt := tt) (by rw [HNN.out, HNN'.out]; exact hl))
    go_enter Try.func20, Try.ntmps20
    go_wp2
    go_ret
    exact ⟨by rw [HS.out, hfin.out]; rfl, Below.refl _ _⟩
end Go.Proofs.Ytokakgjcegmabaa
