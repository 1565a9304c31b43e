
/-
  journal.Read: a range over the records.
-/
import Derived.Test.YtbgooppmhgaicabJrnA
import Derived.Test.YtbgooppmhgaicabOctL
namespace Go.Proofs.Ytbgooppmhgaicab
set_option maxRecDepth 100000
set_option linter.unusedVariables false
set_option linter.unusedSimpArgs false
open Go.RowKit
attribute [local go_sem] Oper.semAt_some

/-- What one round is handed: a record, and where it ends. -/
def encR (x : ByteArray × Nat) : Array Value := #[.string x.1, .int .i64 (x.2 : Int)]
def ends : Nat → List ByteArray → List (ByteArray × Nat)
  | _, [] => []
  | p, t :: ts => (t, p + (recB t).length) :: ends (p + (recB t).length) ts
theorem ends_len (p : Nat) (ts : List ByteArray) : (ends p ts).length = ts.length := by
  induction ts generalizing p with
  | nil => rfl
  | cons t ts ih => simp [ends, ih]
theorem ends_fst (p : Nat) (ts : List ByteArray) : (ends p ts).map (·.1) = ts := by
  induction ts generalizing p with
  | nil => rfl
  | cons t ts ih => simp [ends, ih]
theorem ends_append (p : Nat) (a b : List ByteArray) : ends p (a ++ b) = ends p a ++ ends (p + (cat a).length) b := by
  induction a generalizing p with
  | nil => simp [ends, cat]
  | cons t ts ih => simp only [List.cons_append, ends, ih, cat_cons, List.length_append]; rw [Nat.add_assoc]
def lastE (l : List (ByteArray × Nat)) : Nat := (l.getLast?.map (·.2)).getD 0
theorem lastE_snoc (l : List (ByteArray × Nat)) (x : ByteArray × Nat) : lastE (l ++ [x]) = x.2 := by simp [lastE]
theorem lastE_ends (p : Nat) (ts : List ByteArray) (h : ts ≠ []) : lastE (ends p ts) = p + (cat ts).length := by
  obtain ⟨a, t, rfl⟩ : ∃ a t, ts = a ++ [t] := ⟨ts.dropLast, ts.getLast h, (List.dropLast_concat_getLast h).symm⟩
  rw [ends_append]
  simp only [ends]
  rw [lastE_snoc, cat_snoc, List.length_append, Nat.add_assoc]
def rcs (s : ByteArray) : List (ByteArray × Nat) := ends 0 (rdT s.data.toList)
theorem rcs_len (s : ByteArray) : (rcs s).length = (rdT s.data.toList).length := ends_len _ _
theorem rcs_last (s : ByteArray) : lastE (rcs s) = rdN s.data.toList := by
  unfold rcs rdN
  by_cases h : rdT s.data.toList = []
  · rw [h]; rfl
  · rw [lastE_ends 0 _ h]; omega
theorem rcs_count (s : ByteArray) : 5 * (rcs s).length ≤ s.size := by
  rw [rcs_len]
  have h1 := cat_count (rdT s.data.toList)
  have h2 := rdN_le s.data.toList
  have h3 := size_toList s
  unfold rdN at h2
  omega

/-- What a round keeps: what lay below m, and the block B. -/
def KpB (m B : Nat) (X Y : World) : Prop := Below m X Y ∧ Y.heap[B]? = X.heap[B]?
theorem KpB.trans {m B : Nat} {X Y Z : World} (h : KpB m B X Y) (k : KpB m B Y Z) : KpB m B X Z := ⟨h.1.trans k.1, k.2.trans h.2⟩
theorem KpB.refl (m B : Nat) (X : World) : KpB m B X X := ⟨Below.refl _ _, rfl⟩
theorem KpB.of_below {m B : Nat} {X Y : World} (hB : B < X.heap.size) (hm : m ≤ X.heap.size) (h : Below X.heap.size X Y) : KpB m B X Y := ⟨h.mono hm, h.block B hB⟩
theorem KpB.cell {m B i : Nat} {X Y : World} {v : Value} (h : KpB m B X Y) (hc : X.cell? ⟨B, i, none⟩ = some v) : Y.cell? ⟨B, i, none⟩ = some v := by
  simp only [World.cell?, h.2] at hc ⊢; exact hc
theorem KpB.put {m B : Nat} {w : World} (hm : m ≤ w.heap.size) (hB : B < w.heap.size) (W : World) (l : Nat) (o o' : Obj) (hl : w.heap.size ≤ l) (h : W.heap[l]? = some o) (hc : o.isCells = false) (hw : o.isWalk = false) : KpB m B W (W.putObj l o') :=
  ⟨(Below.refl m W).grown (grownBy_putObj' W l o') (by have := (Array.getElem?_eq_some_iff.1 h).1; omega) (fun k e => by cases e; omega), (grownBy_putObj' W l o').block B (by have := (Array.getElem?_eq_some_iff.1 h).1; omega) (fun e => by cases e; omega)⟩

theorem records_in (F : Fence) (n : Nat) (hf : F.fn 26) (hro : F.round = none) (s : ByteArray) (w : World) :
    CallsIn F n Try.prog 26 #[.string s] w fun e w' => e = .returned (.func (.func 36) #[] #[.pointer (some ⟨w.heap.size, 0, none⟩)]) ∧ w' = w.alloc (.cells #[.string s] 9) := by
  refine callsIn_of_wp Try.func26 rfl hf ?_ hro
  simp only [Try.ntmps26, List.size_toArray, List.length_cons, List.length_nil, Nat.reduceAdd, Nat.reduceSub, Array.replicate_succ, Array.replicate_zero, List.push_toArray, List.append_toArray, List.nil_append, List.cons_append]
  gi_wp2
  go_ret
  exact ⟨rfl, rfl⟩

set_option maxHeartbeats 4000000 in
theorem records1_in (n : Nat) (hn : 2 ≤ n) (l Bs m : Nat) (s0 : ByteArray) (hs0 : s0.size ≤ 281474976710656) (J Jx : List (ByteArray × Nat) → World → Prop) (W : World) (hJ : AbidesFrom W.heap.size J) (hm : m ≤ W.heap.size)
    (hY : ∀ pre x W1, J pre W1 → pre.length < (rcs s0).length → YieldAt Fence.wide (n - 1) Try.prog l (encR x) W1 fun e W' =>
      (e = .returned (.bool true) ∧ J (pre ++ [x]) W' ∧ KpB m Bs W1 W') ∨ (e = .returned (.bool false) ∧ Jx (pre ++ [x]) W'))
    (hc0 : W.cell? ⟨Bs, 0, none⟩ = some (.string s0)) (h0 : J [] W) :
    CallsIn Fence.wide n Try.prog 36 #[.func (.yield l) #[] #[], .pointer (some ⟨Bs, 0, none⟩)] W fun e W' => (∃ v, e = .returned v) ∧
      ((∃ ys, ys = rcs s0 ∧ J ys W') ∨ (∃ pre, pre <+: rcs s0 ∧ Jx pre W')) := by
  refine callsIn_of_wp Try.func36 rfl trivial ?_ rfl
  simp only [Try.ntmps36, List.size_toArray, List.length_cons, List.length_nil, Nat.reduceAdd, Nat.reduceSub, Array.replicate_succ, Array.replicate_zero, List.push_toArray, List.append_toArray, List.nil_append, List.cons_append]
  have HY := hidp hY; have HC0 := hidp hc0
  have hbs0 := World.block_lt_of_cell? W _ hc0
  simp only at hbs0
  clear hY hc0
  gi_wp2
  gi_loopw [3] (fun t3 wr => ∃ (a : List ByteArray) (rest : List UInt8), t3 = .int .i64 (((cat a).length : Nat) : Int) ∧ s0.data.toList = cat a ++ rest ∧ (∀ t ∈ a, t.size ≤ 8192) ∧ J (ends 0 a) wr ∧ KpB m Bs W wr) (fun t3 _ => s0.size - (intOf t3).toNat)
  case atStart => exact ⟨[], s0.data.toList, rfl, rfl, by simp, h0, KpB.refl _ _ _⟩
  case round =>
    obtain ⟨a, rest, rfl, hsr, ha8, hJs, hkp⟩ := hrel
    obtain ⟨p, hp⟩ : ∃ p, (cat a).length = p := ⟨_, rfl⟩
    have hps : p ≤ s0.size := by rw [← size_toList s0, hsr, List.length_append, hp]; omega
    have hex : s0.extract p s0.size = mkS rest := by rw [ext_drop, hsr, ← hp, List.drop_left]
    have hrs : (mkS rest).size + p = s0.size := by rw [mkS_size, ← size_toList s0, hsr, List.length_append, hp]; omega
    rw [hp]
    have hc := hkp.cell HC0.out
    have HSR := hidp hsr; have HA8 := hidp ha8; have HJs := hidp hJs; have HKP := hidp hkp; have HP := hidp hp
    have hBw := World.block_lt_of_cell? wr _ hc
    have hmw := Nat.le_trans hm hkp.1.size
    simp only at hBw
    clear hsr ha8 hJs hkp hp
    have c1 := hidp (fun W => first_any W (mkS rest) (by omega))
    have hpt : ((p : Int)).toNat = p := by omega
    cases hf : fst1 (mkS rest) with
    | none =>
      have hfin := hidp (show rcs s0 = ends 0 a from by unfold rcs; rw [HSR.out, rdT_cat a HA8.out, rdT_none hf, List.append_nil])
      rw [hf] at c1
      simp only [fsV] at c1
      obtain ⟨R, hR⟩ : ∃ R, mkS rest = R := ⟨_, rfl⟩
      rw [hR] at c1 hex
      clear hR hf hrs
      gi_wp2_with fail
      refine ⟨trivial, fun _ => by omega, ?_⟩
      refine (callsIn_wide.2 (c1.out _)).mono ?_
      rintro e1 w2 ⟨rfl, hb2⟩
      have hJ2 := hidp (hJ (ends 0 a) wr w2 none HJs.out (grown_of_below hb2) (fun r e => by cases e))
      clear hc hb2
      gi_wp2
      refine bodyPost_ret (results_none rfl _ _ _) rfl ?_
      exact ⟨⟨_, rfl⟩, .inl ⟨_, hfin.out.symm, hJ2.out⟩⟩
    | some x =>
      obtain ⟨t, k⟩ := x
      obtain ⟨r', h1, h2, h3⟩ := fst1_again _ _ _ hf
      rw [mkS_data] at h1
      have hk5 : 0 < k := by rw [h2]; exact recB_pos t
      have hkr : k + r'.length = (mkS rest).size := by rw [mkS_size, h1, List.length_append, h2]
      have hcat := hidp (cat_snoc a t)
      have hend := hidp (show ends 0 (a ++ [t]) = ends 0 a ++ [(t, p + k)] from by rw [ends_append]; simp only [ends]; rw [Nat.zero_add, HP.out, ← h2])
      have hlen := hidp (show (cat (a ++ [t])).length = p + k from by rw [hcat.out, List.length_append, HP.out, ← h2])
      have hsr2 := hidp (show s0.data.toList = cat (a ++ [t]) ++ r' from by rw [HSR.out, h1, hcat.out, List.append_assoc])
      have ha2 := hidp (show ∀ x ∈ a ++ [t], x.size ≤ 8192 from fun x hx => by
        rcases List.mem_append.1 hx with h | h
        · exact HA8.out x h
        · simp at h; subst h; exact h3)
      have hrc := hidp (show rcs s0 = ends 0 a ++ [(t, p + k)] ++ ends (p + k) (rdT r') from by
        unfold rcs
        rw [hsr2.out, rdT_cat _ ha2.out, ends_append, hend.out, hlen.out, Nat.zero_add])
      rw [hf] at c1
      simp only [fsV] at c1
      obtain ⟨R, hR⟩ : ∃ R, mkS rest = R := ⟨_, rfl⟩
      rw [hR] at c1 hex hkr hrs
      clear hR hf h1 h2 h3
      gi_wp2_with fail
      refine ⟨trivial, fun _ => by omega, ?_⟩
      refine (callsIn_wide.2 (c1.out _)).mono ?_
      rintro e1 w2 ⟨rfl, hb2⟩
      have hJ2 := hJ (ends 0 a) wr w2 none HJs.out (grown_of_below hb2) (fun r e => by cases e)
      have HK2 := hidp (HKP.out.trans (KpB.of_below hBw hmw hb2))
      obtain ⟨fn, tmps, assign, body, hy, hR⟩ := HY.out (ends 0 a) (t, p + k) w2 hJ2 (by rw [hrc.out]; simp)
      simp only [encR] at hy hR
      have hpk : ((p + k : Nat) : Int) = (p : Int) + (k : Int) := by omega
      rw [hpk] at hy
      clear hc hb2
      gi_wp2
      refine ⟨fun _ => by omega, hR.mono ?_⟩
      rintro e1 W3 (⟨rfl, hJ3, hk3⟩ | ⟨rfl, hJx3⟩)
      · have HK3 := hidp (HK2.out.trans hk3)
        clear hk3
        gi_wp2
        exact ⟨⟨a ++ [t], r', by rw [hlen.out, hpk], hsr2.out, ha2.out, by rw [hend.out]; exact hJ3, HK3.out⟩, by simp [intOf]; omega⟩
      · have hp3 := hidp (show (ends 0 a ++ [(t, p + k)]) <+: rcs s0 from by rw [hrc.out]; exact List.prefix_append _ _)
        gi_wp2
        refine bodyPost_ret (results_none rfl _ _ _) rfl ?_
        exact ⟨⟨_, rfl⟩, .inr ⟨_, hp3.out, hJx3⟩⟩
theorem records_stops (n : Nat) (hn : 2 ≤ n) (Bs m : Nat) (s0 : ByteArray) (hs0 : s0.size ≤ 281474976710656) (w : World) (hm : m ≤ w.heap.size) (hc : w.cell? ⟨Bs, 0, none⟩ = some (.string s0)) :
    SeqStopsK Fence.wide n Try.prog 36 #[.pointer (some ⟨Bs, 0, none⟩)] encR (KpB m Bs) (fun ys => ys = rcs s0) (fun pre => pre <+: rcs s0) (rcs s0).length w :=
  fun l J Jx W hW hJ _ hY h0 => records1_in n hn l Bs m s0 hs0 J Jx W hJ (by have := hW.size; omega) hY ((hW.cell (World.block_lt_of_cell? w _ hc)).trans hc) h0
end Go.Proofs.Ytbgooppmhgaicab
