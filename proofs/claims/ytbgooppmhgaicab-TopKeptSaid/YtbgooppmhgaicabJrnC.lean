
/-
  journal.Read.
-/
import Derived.Test.YtbgooppmhgaicabJrnB
import Derived.Maps.AppendAt
import Derived.Maps.OwnIn
namespace Go.Proofs.Ytbgooppmhgaicab
set_option maxRecDepth 100000
set_option linter.unusedVariables false
set_option linter.unusedSimpArgs false
open Go.RowKit
attribute [local go_sem] Oper.semAt_some

theorem at3 (w : World) (o1 o2 o3 : Obj) (W : World) (hW : W = ((w.alloc o1).alloc o2).alloc o3) :
    W.heap[w.heap.size]? = some o1 ∧ W.heap[w.heap.size + 1]? = some o2 ∧ W.heap[w.heap.size + 1 + 1]? = some o3 ∧ W.heap.size = w.heap.size + 3 ∧ Below w.heap.size w W := by
  subst hW
  refine ⟨?_, ?_, ?_, ?_, ?_⟩
  all_goals first
    | exact (((Below.refl _ w).alloc (Nat.le_refl _) _).alloc (by simp) _).alloc (by simp; omega) _
    | (simp; done)
    | (simp only [World.alloc, Array.getElem?_push, Array.size_push]; (repeat rw [if_neg (by omega)]); first | rfl | (rw [if_pos (by omega)]) | (rw [if_pos rfl]))
def recs (pre : List (ByteArray × Nat)) : List Value := strV (pre.map (·.1))
theorem recs_len (pre : List (ByteArray × Nat)) : (recs pre).length = pre.length := by simp [recs, strV]
theorem recs_snoc (pre : List (ByteArray × Nat)) (x : ByteArray × Nat) : recs (pre ++ [x]) = recs pre ++ [.string x.1] := by simp [recs, strV]
/-- Between two rounds. -/
def IRd (w : World) (s : ByteArray) (pre : List (ByteArray × Nat)) (W : World) : Prop :=
  (((∃ v, Boxed W w.heap.size 22 v ∧ W.ownsRow w.heap.size 9 1 v (recs pre).length (recs pre) ∧ some (w.heap.size + 1 + 1) ≠ v.ownBlock) ∧ Boxed W (w.heap.size + 1) 3 (.int .i64 ((lastE pre : Nat) : Int))) ∧ Boxed W (w.heap.size + 1 + 1) 9 (.string s)) ∧ Below w.heap.size w W
theorem IRd_own (w : World) (s : ByteArray) (B : Nat) (hB : w.heap.size ≤ B) : OwnFrom B (IRd w s) :=
  OwnFrom.and (Go.Own.from (OwnAnd (OwnAnd (holdsRow_own w.heap.size _ _ _ 1 (fun pre => (recs pre).length) (fun pre => recs pre) (fun _ v => some (w.heap.size + 1 + 1) ≠ v.ownBlock)) (boxed_own _ _ _)) (boxed_own _ _ _)) _) (ownFrom_below (Nat.le_refl _) hB)

set_option maxHeartbeats 8000000 in
theorem read_in (n : Nat) (hn : 6 ≤ n) (w : World) (s : ByteArray) (hs : s.size ≤ 1099511627776) :
    CallsIn Fence.wide n Try.prog 13 #[.string s] w fun e w' => ∃ v, e = .returned (.tuple #[v, .int .i64 ((rdN s.data.toList : Nat) : Int)]) ∧ OwnV w' w.heap.size 9 v (strV (rdT s.data.toList)) ∧ Below w.heap.size w w' := by
  obtain ⟨i0, hi, hz0, hz1, hz2⟩ := info_parts info9
  have HI := hidp hi; have HZ0 := hidp hz0; have HZ1 := hidp hz1; have HZ2 := hidp hz2
  clear hi hz0 hz1 hz2
  have hcnt := rcs_count s
  have HL := hidp (rcs_last s)
  have HF := hidp (show (rcs s).map (·.1) = rdT s.data.toList from ends_fst _ _)
  refine callsIn_of_wp_marks Try.func13 rfl trivial ?_ rfl
  simp only [Try.ntmps13, List.size_toArray, List.length_cons, List.length_nil, Nat.reduceAdd, Nat.reduceSub, Array.replicate_succ, Array.replicate_zero, List.push_toArray, List.append_toArray, List.nil_append, List.cons_append]
  gi_wp2_with (refine ⟨trivial, fun _ => by omega, ?_⟩; (refine (records_in Fence.wide (n - 1) trivial rfl _ _).mono ?_); rintro e2 w2 ⟨rfl, rfl⟩)
  generalize hW0 : (((w.alloc (.cells #[.slice none 0 0] 22)).alloc (.cells #[.int .i64 0] 3)).alloc (.cells #[.string s] 9)) = W0
  obtain ⟨b0, b1, b2, hz, hB0⟩ := at3 _ _ _ _ _ hW0.symm
  clear hW0
  refine wpIn_rangeFunc_ownG (α := ByteArray × Nat) rfl (by omega) (gf := 36) (lb := #[.pointer (some ⟨w.heap.size + 1 + 1, 0, none⟩)]) rfl trivial (enters_of Try.func36 (by kernel_rfl) rfl)
    (encs := encR) (Kp := KpB w.heap.size (w.heap.size + 1 + 1)) (S := fun ys => ys = rcs s) (Sp := fun pre => pre <+: rcs s) (N := (rcs s).length) (w0 := W0)
    (records_stops (n - 1) (by omega) _ _ s (by omega) W0 (by omega) (Boxed.cell b2))
    (fun h k => h.trans k) (KpB.put (by omega) (by omega)) (Below.refl _ _) (fun _ => rfl)
    (IRd w s) (fun _ _ _ => False) (IRd_own _ _ _ (by omega)) (fun c _ _ _ _ h _ _ => h)
    ⟨⟨⟨⟨_, b0, World.ownsRow_nil _ _ _ _, by simp [Value.ownBlock]⟩, b1⟩, b2⟩, hB0⟩
    (fun x => { tmps := #[.string s, undef, .slice none 0 0, .int .i64 0, .pointer (some ⟨w.heap.size, 0, none⟩), .pointer (some ⟨w.heap.size + 1, 0, none⟩), .string x.1, .int .i64 (x.2 : Int), .string s, .func (.func 36) #[] #[.pointer (some ⟨w.heap.size + 1 + 1, 0, none⟩)], .string x.1, .int .i64 (x.2 : Int), undef, undef, undef, undef, undef, undef, undef], defers := [] })
    ?assign ?body ?done ?stop
  case assign =>
    intro l x W K hKK
    simp only [encR]
    have HKK := hidp hKK
    clear hKK
    gi_wp2
    exact HKK.out
  case body =>
    rintro l pre x W hI hlt
    obtain ⟨⟨⟨⟨v, c0, hrow, hnb⟩, c1⟩, c2⟩, hB⟩ := hI
    have hsz := hB.size
    have hlt2 := c2.lt
    clear b0 b1 b2 hB0
    have d0 := c0.cell; have d1 := c1.cell
    have f0 := c0.frozen; have f1 := c1.frozen
    have HC := hidp (And.intro c0 (And.intro c1 c2)); clear c0 c1 c2
    have hlx := recs_len pre
    have HLX := hidp hlx
    gi_wp2_with (gi_at_builtin; (refine wpListIn_append_own_at _ rfl (.tmp 12) (.tmp 14) 22 rfl w.heap.size 9 i0 _ 1 16 Try.underlying22 HI.out HZ0.out HZ1.out HZ2.out rfl (by decide) _ _ _ rfl (hrow.alloc _) ⟨W.heap.size, 0, none⟩ 1 1 [.string x.1] rfl rfl (cell_one_new _ _ _) (by simp [Value.oneCell']) ?_ ?_ ?_ ?_))
    · unfold maxLen; omega
    · omega
    · rw [heap_size_alloc]; omega
    · intro v' w1 hown' hgrow hne hat
      obtain ⟨g', cap', rfl⟩ := ownsRow_succ hown'
      obtain ⟨c0, c1, c2⟩ := HC.out
      obtain ⟨g5a, g5b, hr2, hk2, hb2⟩ := c0.appended (by decide) hrow hsz (by omega) hown' hgrow
      have k1 : Boxed w1 _ _ _ := (c1.alloc _).kept hgrow (c1.not_row (by decide) hrow)
      have k2 : Boxed w1 _ _ _ := (c2.alloc _).kept hgrow hnb
      have hnb2 : some (w.heap.size + 1 + 1) ≠ (Value.slice (some ⟨g', 0, none⟩) (pre.length + 1) cap').ownBlock := by
        rcases hat with h | h
        · rw [h]; exact hnb
        · rw [h]; intro e; have := Option.some.inj e; omega
      have z1 := k1.cell; have zf1 := k1.frozen; have z0 := g5a.cell; have zf0 := g5a.frozen
      have hsn := hidp (recs_snoc pre x)
      have hle := hidp (lastE_snoc pre x)
      have s4 := (k2.other (B' := w.heap.size) (by omega) (.slice (some ⟨g', 0, none⟩) (pre.length + 1) cap')).other (B' := w.heap.size + 1) (by omega) (.int .i64 (x.2 : Int))
      have HEND := hidp (show IRd w s (pre ++ [x]) ((w1.setCell ⟨w.heap.size, 0, none⟩ (.slice (some ⟨g', 0, none⟩) (pre.length + 1) cap')).setCell ⟨w.heap.size + 1, 0, none⟩ (.int .i64 (x.2 : Int))) from by
        refine ⟨⟨⟨⟨_, g5b.other (by omega) _, ?_, hnb2⟩, ?_⟩, ?_⟩, ?_⟩
        · rw [hsn.out, List.length_append, HLX.out]
          exact hr2.kept (grownBy_setCell' _ _ _) (.inr ((k1.other (by omega) _).not_row (by decide) hr2).symm)
        · rw [hle.out]; exact (k1.other (by omega) _).set _
        · exact s4
        · exact (hB.trans hb2).setCell (p := ⟨w.heap.size + 1, 0, none⟩) (by simp) _)
      have HK2 := hidp (hk2.trans (KeepsOthers.setCell _ ⟨w.heap.size + 1, 0, none⟩ (.int .i64 (x.2 : Int))))
      have HKB := hidp (show KpB w.heap.size (w.heap.size + 1 + 1) W ((w1.setCell ⟨w.heap.size, 0, none⟩ (.slice (some ⟨g', 0, none⟩) (pre.length + 1) cap')).setCell ⟨w.heap.size + 1, 0, none⟩ (.int .i64 (x.2 : Int))) from
        ⟨hb2.setCell (p := ⟨w.heap.size + 1, 0, none⟩) (by simp) _, (show _ = _ from s4).trans (show _ = _ from c2).symm⟩)
      clear hown' hgrow hnb hnb2 hat hr2 hk2 hb2 g5a g5b k1 k2 hrow c0 c1 c2 hsn hle s4
      gi_wp2
      exact ⟨HK2.out.from _, HKB.out, HEND.out⟩
  case done =>
    rintro D ys W hD hys hI hDD
    subst hys
    obtain ⟨⟨⟨⟨v, c0, hrow, -⟩, c1⟩, c2⟩, hB⟩ := hI
    have hsz := hB.size
    have hfst : recs (rcs s) = strV (rdT s.data.toList) := by unfold recs; rw [HF.out]
    rw [hfst] at hrow
    rw [HL.out] at c1
    have d0 := c0.cell; have d1 := c1.cell
    have HR := hidp (show OwnV W w.heap.size 9 v (strV (rdT s.data.toList)) from hrow); have HB := hidp hB; have HD := hidp hDD
    have hdd := (Array.getElem?_eq_some_iff.1 hDD).1
    have hvv : ∃ a n c, v = .slice a n c := by
      rcases hrow.2 with ⟨rfl, _⟩ | ⟨g, cap, cur, rfl, _⟩
      · exact ⟨_, _, _, rfl⟩
      · exact ⟨_, _, _, rfl⟩
    obtain ⟨va, vn, vc, rfl⟩ := hvv
    have hdD : W.drew.heap[D]? = some (.deferred (some [])) := HD.out
    have hBF := hidp ((HB.out.drew).grown (grownBy_putObj' W.drew D (.deferred none)) HB.out.size (fun k e => by cases e; omega))
    have hRF := hidp (show OwnV (W.drew.putObj D (.deferred none)) w.heap.size 9 (.slice va vn vc) (strV (rdT s.data.toList)) from ownsRow_putObj (show OwnV W.drew w.heap.size 9 (.slice va vn vc) (strV (rdT s.data.toList)) from HR.out.kept ((Below.refl W.heap.size W).drew) (Nat.le_refl _)) _ hdD rfl)
    clear hDD c0 c1 c2 hrow hB b0 b1 b2 hB0 hfst
    gi_wp2
    gi_region
    all_goals gi_wp2
    all_goals refine ⟨by simp, .inl ⟨_, _, rfl, run_takeDeferred hdD, ?_⟩⟩
    all_goals refine ⟨_, by simp [results, Try.results13, go_sem]; rfl, ?_⟩
    all_goals exact ⟨_, rfl, hRF.out, hBF.out⟩
  case stop =>
    rintro D c pre W hD hsp hI hK
    exact hI.elim
theorem read_any (w : World) (s : ByteArray) (hs : s.size ≤ 1099511627776) :
    Calls Try.prog 13 #[.string s] w fun e w' => ∃ v, e = .returned (.tuple #[v, .int .i64 ((rdN s.data.toList : Nat) : Int)]) ∧ OwnV w' w.heap.size 9 v (strV (rdT s.data.toList)) ∧ Below w.heap.size w w' :=
  callsIn_wide.1 (read_in 6 (by omega) w s hs)
end Go.Proofs.Ytbgooppmhgaicab
