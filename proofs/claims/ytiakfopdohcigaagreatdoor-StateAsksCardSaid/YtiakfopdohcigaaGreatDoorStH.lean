
/-
  state: the iterator over the cells of a kind.
-/
import Derived.Test.YtiakfopdohcigaaGreatDoorStG
import Derived.Test.YtiakfopdohcigaaGreatDoorRnd
import Derived.Test.YtiakfopdohcigaaGreatDoorOctAll
namespace Go.Proofs.YtiakfopdohcigaaGreatDoor
set_option maxRecDepth 100000
set_option linter.unusedVariables false
set_option linter.unusedSimpArgs false
open Go.RowKit Rw
attribute [local go_sem] Oper.semAt_some
open Go.Shelf
/-- The cells of a kind, of the first i. -/
def kiT (cs : List Ce) (k i : Nat) : List Ce := (cs.take i).filter fun c => decide (c.k = k)
def kiL (cs : List Ce) (k : Nat) : List Ce := kiT cs k cs.length
theorem kiT_succ {cs : List Ce} {k i : Nat} {c : Ce} (h : i < cs.length) (hc : cs[i] = c) : kiT cs k (i + 1) = kiT cs k i ++ (if c.k = k then [c] else []) := by
  unfold kiT
  rw [List.take_add_one, List.getElem?_eq_getElem h, hc, List.filter_append]
  congr 1
  by_cases hk : c.k = k <;> simp [hk]
theorem kiT_pre (cs : List Ce) (k i : Nat) : kiT cs k i <+: kiL cs k := by
  unfold kiL kiT
  obtain ⟨t, ht⟩ : cs.take i <+: cs.take cs.length := by rw [List.take_length]; exact List.take_prefix _ _
  rw [← ht, List.filter_append]; exact List.prefix_append _ _
def encCe (c : Ce) : Array Value := #[.agg c.row.toArray]
theorem lt_of_preC {l m : List Ce} {x : Ce} (h : l ++ [x] <+: m) : l.length < m.length := by
  have := h.length_le; simp at this; omega

set_option maxHeartbeats 16000000 in
theorem ofKind1_in (n0 : Nat) (hn0 : 2 ≤ n0) (l : Nat) (bs bk k : Nat) (cs : List Ce) (v : Value) (w0 : World) (hs : Arr w0 bs 22 [v]) (hk0 : Arr w0 bk 23 [.int .u8 (k : Int)]) (hv : CsAt w0 v cs)
    (J Jx : List Ce → World → Prop) (W : World) (hW : Below w0.heap.size w0 W) (hJ : AbidesFrom W.heap.size J)
    (hY : ∀ pre x W1, J pre W1 → pre.length < (kiL cs k).length → YieldAt Fence.wide (n0 - 1) Tryz.prog l (encCe x) W1 fun e W' =>
      (e = .returned (.bool true) ∧ J (pre ++ [x]) W' ∧ Below w0.heap.size W1 W') ∨ (e = .returned (.bool false) ∧ Jx (pre ++ [x]) W'))
    (h0 : J [] W) :
    CallsIn Fence.wide n0 Tryz.prog 109 #[.func (.yield l) #[] #[], .pointer (some ⟨bs, 0, none⟩), .pointer (some ⟨bk, 0, none⟩)] W fun e W' => (∃ v, e = .returned v) ∧
      ((∃ ys, ys = kiL cs k ∧ J ys W') ∨ (∃ pre, pre <+: kiL cs k ∧ Jx pre W')) := by
  have HY := hidp hY; have HV := hidp hv; have HWB := hidp hW
  have HK0 := hidp (hk0.cell 0 (by simp)); have HKL := hidp hk0.lt
  have x1 := (hW.cell (p := ⟨bs, 0, none⟩) hs.lt).trans (hs.cell 0 (by simp))
  clear hY hv hW hk0 hs
  simp only [List.getElem_cons_zero] at HK0 x1
  obtain ⟨av, cv0, rfl⟩ := HV.out.form
  obtain ⟨n, hn⟩ : ∃ n, cs.length = n := ⟨_, rfl⟩
  have HN := hidp hn
  have h47 := HV.out.len
  rw [hn] at HV h47 x1
  clear hn
  refine callsIn_of_wp Tryz.func109 rfl trivial ?_ rfl
  simp only [Tryz.ntmps109, List.size_toArray, List.length_cons, List.length_nil, Nat.reduceAdd, Nat.reduceSub, Array.replicate_succ, Array.replicate_zero, List.push_toArray, List.append_toArray, List.nil_append, List.cons_append]
  gi_wp2
  clear x1
  gi_loopw [8] (fun t8 wr => ∃ i : Nat, t8 = .int .i64 (i : Int) ∧ i ≤ n ∧ J (kiT cs k i) wr ∧ Below w0.heap.size w0 wr) (fun t8 _ => n - (intOf t8).toNat)
  case atStart => exact ⟨0, rfl, by omega, h0, HWB.out⟩
  case round =>
    obtain ⟨i, rfl, hi, hJs, hb⟩ := hrel
    have HJ := hidp hJs; have HB := hidp hb
    clear hJs hb
    by_cases hlt : i < n
    · have e1 : decide ((i : Int) < (n : Int)) = true := by simp; omega
      have hgl : i < cs.length := by rw [HN.out]; exact hlt
      obtain ⟨BK, off, c0, e2, hc, hBK0, hR0⟩ := HV.out.get (by rw [HN.out]; omega)
      rw [HN.out] at e2
      simp only [Value.slice.injEq] at e2
      obtain ⟨rfl, -, rfl⟩ := e2
      obtain ⟨c, hge⟩ : ∃ c, cs[i] = c := ⟨_, rfl⟩
      have HRI := hidp (show wr.rangeAt BK (off + 8 * i) c.row from by rw [← hge]; exact rangeAt_below (hR0 i hgl) HB.out hBK0)
      clear hR0 hBK0 hc
      by_cases hk : c.k = k
      · have H := hidp (Mm.M.nil wr)
        have hst := kiT_succ (cs := cs) (k := k) hgl hge
        have HS := hidp (show kiT cs k (i + 1) = kiT cs k i ++ [c] from by rw [hst, if_pos hk])
        have ek : ((c.k : Int) == (k : Int)) = true := by rw [hk]; simp
        have hpx := hidp (show kiT cs k i ++ [c] <+: kiL cs k from by rw [← HS.out]; exact kiT_pre _ _ _)
        clear hst hk hge
        gi_wp2_with (first | (refine Rnd.to_in Rnd.wideF rfl ?_; refine wpL_idxR tyC rfl (.tmp 6) (.tmp 8) rfl BK off n _ i rfl rfl hlt ?_; refine ⟨rfl, ?_⟩) | (refine Rnd.to_in Rnd.wideF rfl ?_; refine wpL_atR tyC rfl (.tmp 10) rfl BK (off + 8 * i) c.row rfl rfl HRI.out ?_; refine ⟨rfl, ?_⟩) | (refine Rnd.to_in Rnd.wideF rfl ?_; refine Mm.new rtC H (some 5) rfl rfl rfl ?_; clear H; intro b5 _ H nw; clear nw; refine ⟨rfl, ?_⟩) | (refine Rnd.to_in Rnd.wideF rfl ?_; refine Mm.put0 rtC H rfl (.tmp 5) (.tmp 11) c.row rfl rfl rfl rfl (Ce.one c) rfl ?_; intro w2 H2 st; refine ⟨rfl, ?_⟩; clear H st; have H := H2; clear H2; have HBX := hidp (HB.out.trans (H.out.below.mono HB.out.size)); have x0 := H.out.at0.cell 0 (by simp [Ce.row]); simp only [Ce.row, List.getElem_cons_zero] at x0; have x9 := (HBX.out.cell (p := ⟨bk, 0, none⟩) HKL.out).trans HK0.out; have hJ2 := hJ _ wr w2 none HJ.out (grown_of_below H.out.below) (fun r e => by cases e); obtain ⟨fn, tmps, assign, body, hy, hR⟩ := HY.out _ c w2 hJ2 (lt_of_preC hpx.out); simp only [encCe] at hy hR; have HR := hidp hR; clear hR hJ2; skip) | (refine Rnd.to_in Rnd.wideF rfl ?_; refine Mm.get0 rtC H rfl (.tmp 5) rfl rfl rfl ?_; refine ⟨rfl, ?_⟩))
        refine ⟨fun _ => by omega, HR.out.mono ?_⟩
        rintro e1 W3 (⟨rfl, hJ3, hk3⟩ | ⟨rfl, hJx3⟩)
        · have HB3 := hidp (HBX.out.trans hk3)
          have HJ3 := hidp (show J (kiT cs k (i + 1)) W3 from by rw [HS.out]; exact hJ3)
          clear hk3 hJ3 x0 x9
          gi_wp2
          exact ⟨⟨i + 1, by go_num, by omega, HJ3.out, HB3.out⟩, by simp [intOf]; omega⟩
        · clear x0 x9
          gi_wp2
          refine bodyPost_ret (results_none rfl _ _ _) rfl ?_
          exact ⟨⟨_, rfl⟩, .inr ⟨_, hpx.out, hJx3⟩⟩
      · have H := hidp (Mm.M.nil wr)
        have hst := kiT_succ (cs := cs) (k := k) hgl hge
        have HS := hidp (show kiT cs k (i + 1) = kiT cs k i from by rw [hst, if_neg hk, List.append_nil])
        have ek : ((c.k : Int) == (k : Int)) = false := by rw [beq_eq_false_iff_ne]; omega
        clear hst hk hge
        gi_wp2_with (first | (refine Rnd.to_in Rnd.wideF rfl ?_; refine wpL_idxR tyC rfl (.tmp 6) (.tmp 8) rfl BK off n _ i rfl rfl hlt ?_; refine ⟨rfl, ?_⟩) | (refine Rnd.to_in Rnd.wideF rfl ?_; refine wpL_atR tyC rfl (.tmp 10) rfl BK (off + 8 * i) c.row rfl rfl HRI.out ?_; refine ⟨rfl, ?_⟩) | (refine Rnd.to_in Rnd.wideF rfl ?_; refine Mm.new rtC H (some 5) rfl rfl rfl ?_; clear H; intro b5 _ H nw; clear nw; refine ⟨rfl, ?_⟩) | (refine Rnd.to_in Rnd.wideF rfl ?_; refine Mm.put0 rtC H rfl (.tmp 5) (.tmp 11) c.row rfl rfl rfl rfl (Ce.one c) rfl ?_; intro w2 H2 st; refine ⟨rfl, ?_⟩; clear H st; have H := H2; clear H2; have HBX := hidp (HB.out.trans (H.out.below.mono HB.out.size)); have x0 := H.out.at0.cell 0 (by simp [Ce.row]); simp only [Ce.row, List.getElem_cons_zero] at x0; have x9 := (HBX.out.cell (p := ⟨bk, 0, none⟩) HKL.out).trans HK0.out; skip) | (refine Rnd.to_in Rnd.wideF rfl ?_; refine Mm.get0 rtC H rfl (.tmp 5) rfl rfl rfl ?_; refine ⟨rfl, ?_⟩))
        have HJ3 := hidp (show J (kiT cs k (i + 1)) w2 from by rw [HS.out]; exact hJ _ wr w2 none HJ.out (grown_of_below H.out.below) (fun r e => by cases e))
        clear x0 x9
        refine ⟨fun _ _ => trivial, ?_⟩
        gi_wp2
        exact ⟨⟨i + 1, by go_num, by omega, HJ3.out, HBX.out⟩, by simp [intOf]; omega⟩
    · have e1 : decide ((i : Int) < (n : Int)) = false := by simp; omega
      have HJ1 := hidp (show J (kiL cs k) wr from by
        unfold kiL
        rw [show cs.length = i from by rw [HN.out]; omega]
        exact HJ.out)
      gi_wp2
      go_end0
      exact ⟨⟨_, rfl⟩, .inl ⟨_, rfl, HJ1.out⟩⟩
/-- ofKind hands back a value that supplies the cells. -/
theorem ofKind_stops (n : Nat) (hn : 2 ≤ n) (bs bk k : Nat) (cs : List Ce) (v : Value) (w0 : World) (hs : Arr w0 bs 22 [v]) (hk0 : Arr w0 bk 23 [.int .u8 (k : Int)]) (hv : CsAt w0 v cs) :
    SeqStopsK Fence.wide n Tryz.prog 109 #[.pointer (some ⟨bs, 0, none⟩), .pointer (some ⟨bk, 0, none⟩)] encCe (Below w0.heap.size) (fun ys => ys = kiL cs k) (fun pre => pre <+: kiL cs k) (kiL cs k).length w0 :=
  fun l J Jx W hW hJ _ hY h0 => ofKind1_in n hn l bs bk k cs v w0 hs hk0 hv J Jx W hW hJ hY h0
end Go.Proofs.YtiakfopdohcigaaGreatDoor
